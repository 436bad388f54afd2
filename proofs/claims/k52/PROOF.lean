import PyProof.Rows.All
import Wide.All
import OpenK.AllK
import Wide.FinOn
import Lean
import PyProof.EqAt
import PyProof.EqKinds
import PyProof.TupleCall
import PyProof.Draws
import PyProof.ZipIter
import PyProof.EnumMake
import PyProof.IsiPairs
import PyProof.IsiHeapPairs
import PyProof.IsiNone
import PyProof.ReprRoads
import PyProof.ConsumeWalk
import PyProof.NeKinds
import PyProof.Rows.SeqMore
import PyProof.Rows.SortWalk
import PyProof.Rows.StrJoinMade
import PyProof.P3Eq
import PyProof.ListRange
import PyProof.CollectIter
import KE.KTryDeep
import PyProof.ExcBaseAll.ValueError
import PyProof.ExcArgsOwn
import PyProof.ExcAttrAll.ValueError
import KE.KLam
import PyProof.DictItemsLoops
import PyProof.DictCompW
import KE.KRevIter
import PyProof.MinMaxWalk
import PyProof.Rows.RowHeap
import PyProof.MaxThree
import PyProof.Rows.CallKwBuiltin
import KE.KEqDict
import KE.KDictList
import KE.KSortTup
import PySem.Challenge.RW_mainfires_k52_a_unit_more_to_have
set_option Elab.async false
set_option linter.all false
set_option maxRecDepth 100000
set_option maxHeartbeats 4000000
section
namespace L2
open PySem PySem.Spec PyProof.Rows
abbrev Ar:=Sum Int Str
def Di:Ar->Value->Bool
 | .inl k,v=>Value.isInt k v
 | .inr x,v=>Value.isStrOf x v
def MJ (w:World):Ar->Int
 | .inl k=>hashInt k
 | .inr x=>hashStr w x
theorem Cm:∀ {k:Ar}{v:Value},Di k v=true->(∃i t,k=Sum.inl i/\v=Value.int i t)\/(∃x t,k=Sum.inr x/\v=Value.str x t)
 | .inl i,v,h=>by
  obtain⟨t,e⟩:=Value.isInt_shape (k:=i) (v:=v) h
  exact .inl ⟨i,t,rfl,e⟩
 | .inr x,v,h=>by
  obtain⟨t,e⟩:=Value.isStrOf_shape (x:=x) (v:=v) h
  exact .inr ⟨x,t,rfl,e⟩
theorem MK (i:Int) (t:Tok):Di (.inl i) (.int i t)=true:=by simp [Di,Value.isInt]
theorem ML (x:Str) (t:Tok):Di (.inr x) (.str x t)=true:=by simp [Di,Value.isStrOf]
theorem MM (a b:Int):decide ((Sum.inl a:Ar)=Sum.inl b)=(a==b):=by
 by_cases e:a=b
 ·subst e;simp
 ·have h:¬(Sum.inl a:Ar)=Sum.inl b:=λq=>e (Sum.inl.inj q)
  rw [decide_eq_false h]
  exact(beq_eq_false_iff_ne.mpr e).symm
theorem MN (a b:Str):decide ((Sum.inr a:Ar)=Sum.inr b)=decide (a=b):=by
 by_cases e:a=b
 ·subst e;simp
 ·have h:¬(Sum.inr a:Ar)=Sum.inr b:=λq=>e (Sum.inr.inj q)
  rw [decide_eq_false h,decide_eq_false e]
theorem MO (a:Int) (b:Str):decide ((Sum.inl a:Ar)=Sum.inr b)=false:=decide_eq_false (λq=>nomatch q)
theorem MP (a:Str) (b:Int):decide ((Sum.inr a:Ar)=Sum.inl b)=false:=decide_eq_false (λq=>nomatch q)
def AR (prog:Program) (w:World):PySem.KeyKind prog w Ar where
 is:=Di
 hash:=MJ w
 inj:=λv a b ha hb=>by
  rcases Cm ha with⟨i,t,rfl,rfl⟩ | ⟨x,t,rfl,rfl⟩
  ·rcases Cm hb with⟨j,u,rfl,e⟩ | ⟨y,u,rfl,e⟩
   ·injection e with e1 _;rw [e1]
   ·exact nomatch e
  ·rcases Cm hb with⟨j,u,rfl,e⟩ | ⟨y,u,rfl,e⟩
   ·exact nomatch e
   ·injection e with e1 _;rw [e1]
 byValue:=λk v h=>by
  rcases Cm h with⟨i,t,rfl,rfl⟩ | ⟨x,t,rfl,rfl⟩<;>rfl
 pyHash:=λhv h=>by
  rcases Cm hv with⟨i,t,rfl,rfl⟩ | ⟨x,t,rfl,rfl⟩
  ·exact wpAny_pyHash_int h
  ·exact wpAny_pyHash_str h
 eqBool:=λhu hv h=>by
  rcases Cm hu with⟨i,t,rfl,rfl⟩ | ⟨x,t,rfl,rfl⟩
  ·rcases Cm hv with⟨j,u,rfl,rfl⟩ | ⟨y,u,rfl,rfl⟩
   ·rw [MM] at h;exact wpAny_eqBool_int h
   ·rw [MO] at h;exact SeqAt.EqAt.int_str i t y u _ _ _ _ h
  ·rcases Cm hv with⟨j,u,rfl,rfl⟩ | ⟨y,u,rfl,rfl⟩
   ·rw [MP] at h;exact SeqAt.EqAt.str_int x t j u _ _ _ _ h
   ·rw [MN] at h;exact wpAny_eqBool_str h
 «strs»:=λk x t v h=>by
  rcases Cm h with⟨i,u,rfl,e⟩ | ⟨y,u,rfl,e⟩
  ·exact nomatch e
  ·injection e with e1 _
   subst e1
   cases v<;>rfl
theorem MQ (prog:Program) (w:World) (k:Ar) (v:Value):(AR prog w).is k v=Di k v:=rfl
theorem Hm (prog:Program) (w:World) (i:Int) (t:Tok):(AR prog w).is (.inl i) (.int i t)=true:=MK i t
theorem Jd (prog:Program) (w:World) (x:Str) (t:Tok):(AR prog w).is (.inr x) (.str x t)=true:=ML x t
end L2
namespace L2
open PySem PySem.Spec PyProof.Rows
inductive V where
 | non | bl (b:Bool) | int (i:Int) | str (x:Str) | byt (b:Array UInt8) | flt (b:UInt64) | ref (a:Addr) | ty (n:String)
 deriving DecidableEq
def Av:V->Value->Prop
 | .non,u=>u=Value.none
 | .bl b,u=>u=Value.bool b
 | .int i,u=>∃t,u=Value.int i t
 | .str x,u=>∃t,u=Value.str x t
 | .byt b,u=>∃t,u=Value.bytes b t
 | .flt b,u=>∃t,u=Value.float b t
 | .ref a,u=>u=Value.ref a
 | .ty n,u=>u=Value.type n
abbrev Au:List V->List Value->Prop:=Paired Av
theorem Au.length {xs:List V}{us:List Value} (r:Au xs us):xs.length=us.length:=Paired.length r
theorem Au.get:∀ {xs:List V}{us:List Value}{i:Nat}{x:V},Au xs us->xs[i]? =some x->∃u,us[i]? =some u/\Av x u
 | _,_,_,_,.nil,e=>by simp at e
 | _,_,0,_,.cons r _,e=>by simp at e;subst e;exact⟨_,rfl,r⟩
 | _,_,i+1,x,.cons _ t,e=>by
  obtain⟨u,h1,h2⟩:=Au.get (i:=i) (x:=x) t (by simpa using e)
  exact⟨u,by simpa using h1,h2⟩
theorem Au.set {x:V}{u:Value} (r:Av x u):∀ {xs:List V}{us:List Value} (i:Nat),Au xs us->Au (xs.set i x) (us.set i u)
 | _,_,_,.nil=> .nil
 | _,_,0,.cons _ t=> .cons r t
 | _,_,i+1,.cons q t=> .cons q (Au.set r i t)
theorem Au.append:∀ {xs ys:List V}{us ws:List Value},Au xs us->Au ys ws->Au (xs++ys) (us++ws)
 | _,_,_,_,.nil,s=>s
 | _,_,_,_,.cons r t,s=> .cons r (Au.append t s)
theorem Au.take:∀ {xs:List V}{us:List Value} (n:Nat),Au xs us->Au (xs.take n) (us.take n)
 | _,_,0,_=> .nil
 | _,_,_+1,.nil=> .nil
 | _,_,n+1,.cons r t=> .cons r (Au.take n t)
theorem Au.drop:∀ {xs:List V}{us:List Value} (n:Nat),Au xs us->Au (xs.drop n) (us.drop n)
 | _,_,0,r=>r
 | _,_,_+1,.nil=> .nil
 | _,_,n+1,.cons _ t=>Au.drop n t
def RelO:Option V->Option Value->Prop
 | some v,some u=>Av v u
 | none,none=>True
 | _,_=>False
def KV {κ:Type}:List (κ×V)->List (κ×Value)->Prop:=Paired fun(p:κ×V) (q:κ×Value)=>p.1=q.1/\Av p.2 q.2
def kV:Ar->V
 | .inl i=> .int i
 | .inr x=> .str x
inductive HO where
  | lst (xs:List V)
  | tup (xs:List V)
  | dK (kvs:List (Ar×V)) | dT (kvs:List (List Ar×V))
  | set (S:Int->Bool) (n:Nat)
  | ins (C dx:Addr) (fs:List (Str×V))
  | own (x:Addr)
  | xd (fs:List (Str×V))
  | met (f x:Addr)
  | rng (lo hi:Int)
  | frz (o:Obj) (u:HO)
  | tbl (ps:Array Value)
  | ext (φ:Heap->Prop)
abbrev Hp:=Addr->Option HO
def upd (H:Hp) (a:Addr) (o:HO):Hp:=λb=>if b=a then some o else H b
theorem Ai {H:Hp}{a:Addr}{o:HO}:upd H a o a=some o:=by unfold upd;rw [if_pos rfl]
theorem Ap {H:Hp}{a b:Addr}{o:HO} (h:b≠a):upd H a o b=H b:=by unfold upd;rw [if_neg h]
theorem Je {H:Hp}{a b:Addr}{o u:HO} (h:H a=some o) (h':H b=some u) (d:o≠u):a≠b:=by
 intro e;subst e;rw [h] at h';exact d (Option.some.inj h')
theorem A2 {H:Hp}{a b:Addr}{o:HO} (h:H a=some o) (h':H b=none):a≠b:=by
 intro e;subst e;rw [h] at h';cases h'
section
variable (P : Program) (w : World)
def ObjOk (H:Hp) (h:Heap) (a:Addr):HO->Prop
 | .lst xs=>xs.length<=sizeLine/\∃(its:List Value) (n:Nat),Au xs its/\h.get? a=some { cls:= .type "list",data:= .seq its.toArray n}
 | .tup xs=>xs.length<=sizeLine/\∃its:List Value,Au xs its/\IsTup h a its.toArray
 | .dK kvs=>kvs.length<=sizeLine/\(a==sysModules)=false/\∃vs,KV kvs vs/\h.DictOf (AR P w) a vs
 | .dT kvs => kvs.length <= sizeLine /\ (a == sysModules) = false /\ ∃ xs : List (List Ar × Addr × Value),
   Paired (fun(p:List Ar×V) (q:List Ar×Addr×Value)=>p.1=q.1/\H q.2.1=some (.tup (p.1.map kV))/\Av p.2 q.2.2) kvs xs/\
   ∃o es ep,h.get? a=some o/\o.ExactDict/\o.data= .dict es ep/\es.toList=xs.map (entryOfKey (tupleKind (AR P w)))/\(xs.map (·.1)).Nodup
 | .set S n=>h.SetOf (intKind P w) a S n
 | .ins C dx fs => H dx = some (.own a) /\ fs.length <= 1000 /\ dx ≠ a /\ h.get? a = some (PySem.W.instObj C dx) /\
   ∃mA,h.Ns1 dx mA/\(∀f,RelO (fs.lookup f) (mA f))/\PySem.Within mA (fs.map (·.1))
 | .own _=>∃o,h.get? a=some o
 | .xd fs=>∃mA,h.Ns1 a mA/\∀f,RelO (fs.lookup f) (mA f)
 | .rng lo hi=>∃t u v,h.get? a=some { cls:= .type "range",data:= .fields #[.int lo t,.int hi u,.int 1 v]}
 | .frz o u=>h.get? a=some o/\ObjOk H h a u
 | .tbl ps=>h.get? a=some { cls:= .none,data:= .fields ps}
 | .met f x=>h.get? a=some (PySem.W.methodObj (.ref f) (.ref x))
 | .ext φ=>φ h/\(∃o,h.get? a=some o)/\∀h1 h2:Heap,φ h1->(∀o,h1.get? a=some o->h2.get? a=some o)->φ h2
def HOk (H:Hp) (h:Heap):Prop:=∀a o,H a=some o->ObjOk P w H h a o
end
section
variable {P : Program} {w : World} {H H' : Hp} {h h' : Heap} {a : Addr} {o : HO}
theorem ObjOk.lt (x:ObjOk P w H h a o):a<h.objs.size:=by
 cases o with
 | lst xs=>obtain⟨_,_,_,_,e⟩:=x;exact Heap.lt_size e
 | tup xs=>obtain⟨_,_,_,p⟩:=x;exact p.lt
 | dK kvs=>obtain⟨_,_,_,_,o,_,_,e,_⟩:=x;exact Heap.lt_size e
 | dT kvs=>obtain⟨_,_,_,_,o,_,_,e,_⟩:=x;exact Heap.lt_size e
 | set S n=>obtain⟨o,_,_,_,e,_⟩:=x;exact Heap.lt_size e
 | ins C dx fs=>obtain⟨_,_,_,e,_⟩:=x;exact Heap.lt_size e
 | own y=>obtain⟨_,e⟩:=x;exact Heap.lt_size e
 | xd fs=>obtain⟨_,⟨_,_,_,e,_⟩,_⟩:=x;exact Heap.lt_size e
 | rng lo hi=>obtain⟨_,_,_,e⟩:=x;exact Heap.lt_size e
 | frz ob u=>obtain⟨e,_⟩:=x;exact Heap.lt_size e
 | tbl ps=>exact Heap.lt_size (show h.get? a=some _ from x)
 | met f y=>exact Heap.lt_size (show h.get? a=some _ from x)
 | ext φ=>obtain⟨_,⟨_,e⟩,_⟩:=x;exact Heap.lt_size e
theorem Paired.mapP {α β:Type}{F G:α->β->Prop}:∀ {l₁:List α}{l₂:List β},Paired F l₁ l₂->(∀a b,F a b->G a b)->Paired G l₁ l₂
 | _,_,.nil,_=> .nil
 | _,_,.cons r t,f=> .cons (f _ _ r) (Paired.mapP t f)
theorem ObjOk.stay (x:ObjOk P w H h a o) (k:∀b u,(b=a\/H b=some (.own a))->h.get? b=some u->h'.get? b=some u)
  (ho:∀b,H b=some (.own a)->H' b=some (.own a)) (ht:∀b xs,H b=some (.tup xs)->H' b=some (.tup xs)):ObjOk P w H' h' a o:=by
 induction o with
 | lst xs=>obtain⟨z,its,n,r,e⟩:=x;exact⟨z,its,n,r,k _ _ (.inl rfl) e⟩
 | tup xs=>obtain⟨z,its,r,ob,e,c⟩:=x;exact⟨z,its,r,ob,k _ _ (.inl rfl) e,c⟩
 | dK kvs=>obtain⟨z,y,vs,r,ob,es,ep,e,c⟩:=x;exact⟨z,y,vs,r,ob,es,ep,k _ _ (.inl rfl) e,c⟩
 | dT kvs=>
  obtain⟨z,y,xs,r,ob,es,ep,e,c⟩:=x
  exact⟨z,y,xs,Paired.mapP r λp q z=>⟨z.1,ht _ _ z.2.1,z.2.2⟩,ob,es,ep,k _ _ (.inl rfl) e,c⟩
 | set S n=>obtain⟨ob,es,ep,t,e,c⟩:=x;exact⟨ob,es,ep,t,k _ _ (.inl rfl) e,c⟩
 | ins C dx fs=>
  obtain⟨d,z,ne,e,mA,⟨od,es,ep,e2,c⟩,r⟩:=x
  exact⟨ho _ d,z,ne,k _ _ (.inl rfl) e,mA,⟨od,es,ep,k _ _ (.inr d) e2,c⟩,r⟩
 | own y=>obtain⟨ob,e⟩:=x;exact⟨ob,k _ _ (.inl rfl) e⟩
 | xd fs=>obtain⟨mA,⟨od,es,ep,e,c⟩,r⟩:=x;exact⟨mA,⟨od,es,ep,k _ _ (.inl rfl) e,c⟩,r⟩
 | rng lo hi=>obtain⟨t,u,v,e⟩:=x;exact⟨t,u,v,k _ _ (.inl rfl) e⟩
 | frz ob u ih=>obtain⟨e,q⟩:=x;exact⟨k _ _ (.inl rfl) e,ih q⟩
 | tbl ps=>
  have e:h.get? a=some { cls:= .none,data:= .fields ps}:=x
  show h'.get? a=some { cls:= .none,data:= .fields ps}
  exact k a _ (.inl rfl) e
 | met f y=>
  have e:h.get? a=some (PySem.W.methodObj (.ref f) (.ref y)):=x
  show h'.get? a=some (PySem.W.methodObj (.ref f) (.ref y))
  exact k a _ (.inl rfl) e
 | ext φ=>obtain⟨p,⟨o,e⟩,st⟩:=x;exact⟨st _ _ p λo q=>k _ _ (.inl rfl) q,⟨o,k _ _ (.inl rfl) e⟩,st⟩
theorem HOk.lt (x:HOk P w H h) (e:H a=some o):a<h.objs.size:=(x a o e).lt
theorem HOk.fresh (x:HOk P w H h) (e:h.objs.size<=a):H a=none:=by
 cases q:H a with
 | none=>rfl
 | some u=>exact absurd (Nat.lt_of_lt_of_le (x.lt q) e) (Nat.lt_irrefl _)
theorem HOk.kept (x:HOk P w H h) (k:∀b u,h.get? b=some u->h'.get? b=some u):HOk P w H h':=λa o e=>
 (x a o e).stay (λb u _ q=>k b u q) (λ_ q=>q) λ_ _ q=>q
theorem HOk.laid (x:HOk P w H h) (k:∀b u,h.get? b=some u->h'.get? b=some u) (hp:h.objs.size<=a) (new:ObjOk P w (upd H a o) h' a o):HOk P w (upd H a o) h':=λb u e=>by
 have hn:=x.fresh hp
 by_cases hb:b=a
 ·subst hb;rw [Ai] at e;cases e;exact new
 ·rw [Ap hb] at e
  exact(x b u e).stay (λc v _ q=>k c v q) (λc q=>by rw [Ap (A2 q hn)];exact q) λc xs q=>by rw [Ap (A2 q hn)];exact q
end
def Rd (H:Hp) (a:Addr) (u:HO):Prop:=H a=some u\/ ∃o,H a=some (.frz o u)
theorem Rd.ok {P:Program}{w:World}{H:Hp}{h:Heap}{a:Addr}{u:HO} (r:Rd H a u) (x:HOk P w H h):ObjOk P w H h a u:=by
 rcases r with r | ⟨o,r⟩
 ·exact x a u r
 ·obtain⟨_,q⟩:=x a _ r
  exact q
def EC:Option HO->Prop
 | some (.lst _)=>True
 | some (.dK _)=>True
 | some (.dT _)=>True
 | some (.set _ _)=>True
 | some (.ins _ _ _)=>True
 | some (.ext _)=>True
 | _=>False
section
variable {P : Program} {w : World} {H : Hp} {h h' : Heap} {x e : Addr} {o' : HO}
theorem HOk.write (ok:HOk P w H h) (mu:EC (H x)) (he:e=x\/H e=some (.own x)) (k:∀b u,b≠e->h.get? b=some u->h'.get? b=some u) (heo:∃u,h'.get? e=some u)
  (new:ObjOk P w (upd H x o') h' x o'):HOk P w (upd H x o') h':=λb u q=>by
 have nown:∀c y,H c=some (.own y)->c≠x:=λc y r z=>by subst z;rw [r] at mu;exact mu
 have ntup:∀c xs,H c=some (.tup xs)->c≠x:=λc xs r z=>by subst z;rw [r] at mu;exact mu
 by_cases hb:b=x
 ·subst hb;rw [Ai] at q;cases q;exact new
 ·rw [Ap hb] at q
  by_cases hbe:b=e
  ·have q':H b=some (.own x):=by
    rcases he with z | z
    ·exact absurd (hbe.trans z) hb
    ·rw [hbe];exact z
   rw [q] at q';cases q'
   obtain⟨v,hv⟩:=heo
   exact⟨v,by rw [hbe];exact hv⟩
  ·refine(ok b u q).stay (λc v hc r=>k c v ?_ r) (λc r=>by rw [Ap (nown c b r)];exact r) λc xs r=>by rw [Ap (ntup c xs r)];exact r
   rcases hc with rfl | hc
   ·exact hbe
   ·rintro rfl
    rcases he with z | z
    ·exact nown c b hc z
    ·rw [hc] at z;cases z;exact hb rfl
end
structure Un (fs ex:List Addr) (H H':Hp) (h h':Heap):Prop where
 keep:∀b o,h.get? b=some o->H b=none->b ∉ fs->b ∉ ex->h'.get? b=some o
 slot:∀b o,h.get? b=some o->H b=none->b∈fs->b ∉ ex->∃sl,h'.get? b=some { o with slots:=sl}
 free:∀b o,h.get? b=some o->H b=none->b ∉ ex->H' b=none
 there:∀b o,h.get? b=some o->b ∉ ex->∃o',h'.get? b=some o'
 tups:∀b xs,H b=some (.tup xs)->H' b=some (.tup xs)
 frzs:∀b o u,H b=some (.frz o u)->H' b=some (.frz o u)
 tbls:∀b ps,H b=some (.tbl ps)->∃more,H' b=some (.tbl (ps++more))
section
variable {fs fs' ex ex' : List Addr} {H H1 H2 : Hp} {h h1 h2 h' : Heap} {a x e : Addr} {o : HO}
theorem Un.any (u:Un fs ex H H1 h h1) {b:Addr}{ob:Obj} (q:h.get? b=some ob) (n:H b=none) (hx:b ∉ ex):∃sl,h1.get? b=some { ob with slots:=sl}:=by
 by_cases hb:b∈fs
 ·exact u.slot b ob q n hb hx
 ·exact⟨ob.slots,u.keep b ob q n hb hx⟩
theorem Un.kept (k:∀b u,h.get? b=some u->h'.get? b=some u):Un fs ex H H h h':=
 ⟨λb ob q _ _ _=>k b ob q,λb ob q _ _ _=>⟨ob.slots,k b ob q⟩,λ_ _ _ n _=>n,λb ob q _=>⟨ob,k b ob q⟩,λ_ _ q=>q,λ_ _ _ q=>q,λ_ ps q=>⟨#[],by rw [q];simp⟩⟩
theorem Un.refl:Un fs ex H H h h:=Un.kept λ_ _ q=>q
theorem Un.laid (k:∀b u,h.get? b=some u->h'.get? b=some u) (hp:h.objs.size<=a) (hn:H a=none):Un fs ex H (upd H a o) h h' where
 keep:=λb u q _ _ _=>k b u q
 slot:=λb u q _ _ _=>⟨u.slots,k b u q⟩
 free:=λb u q n _=>by rw [Ap (Nat.ne_of_lt (Nat.lt_of_lt_of_le (Heap.lt_size q) hp))];exact n
 there:=λb u q _=>⟨u,k b u q⟩
 tups:=λb xs q=>by rw [Ap (A2 q hn)];exact q
 frzs:=λb u xs q=>by rw [Ap (A2 q hn)];exact q
 tbls:=λb ps q=>⟨#[],by rw [Ap (A2 q hn),q];simp⟩
theorem Un.write (mu:EC (H x)) (he:e=x\/H e=some (.own x)) (k:∀b u,b≠e->h.get? b=some u->h'.get? b=some u) (heo:∃u,h'.get? e=some u):Un fs ex H (upd H x o) h h':=by
 have hx:∀b,H b=none->b≠x:=λb n z=>by subst z;rw [n] at mu;exact mu
 have hb:∀b,H b=none->b≠e:=λb n z=>by
  subst z
  rcases he with r | r
  ·exact hx b n r
  ·rw [n] at r;cases r
 have hm:∀b u,H b=some u->¬EC (some u)->b≠x:=λb u q nm z=>by subst z;rw [q] at mu;exact nm mu
 refine⟨λb u q n _ _=>k b u (hb b n) q,λb u q n _ _=>⟨u.slots,k b u (hb b n) q⟩,λb u q n _=>by rw [Ap (hx b n)];exact n,λb u q _=>?_,
  λb xs q=>by rw [Ap (hm b _ q λz=>z)];exact q,λb u xs q=>by rw [Ap (hm b _ q λz=>z)];exact q,λb ps q=>⟨#[],by rw [Ap (hm b _ q λz=>z),q];simp⟩⟩
 by_cases hbe:b=e
 ·subst hbe;exact heo
 ·exact⟨u,k b u hbe q⟩
end
def Fk (h:Heap) (H:Hp):List Addr:=(List.range h.objs.size).filter λa=>(H a).isSome
def CU (h:Heap) (H:Hp):Heap:=PySem.W.hideAll h (Fk h H)
theorem MR (h:Heap) (H:Hp):(CU h H).objs.size=h.objs.size:=PySem.W.hideAll_size _ _
theorem MS {h:Heap}{H:Hp}{b:Addr}{o:Obj} (e:h.get? b=some o) (n:H b=none):(CU h H).get? b=some o:=
 PySem.W.hideAll_get _ e λhm=>by
  have q:(H b).isSome=true:=(List.mem_filter.mp hm).2
  rw [n] at q;simp at q
theorem MT {h:Heap}{H:Hp}{b:Addr}{o:Obj} (e:(CU h H).get? b=some o):h.get? b=some o/\H b=none:=by
 have e':h.get? b=some o:=PySem.W.of_hideAll (Fk h H) e
 refine⟨e',?_⟩
 cases q:H b with
 | none=>rfl
 | some x=>
  have hm:b∈Fk h H:=List.mem_filter.mpr ⟨List.mem_range.mpr (Heap.lt_size e'),by simp [q]⟩
  have z:(CU h H).get? b=none:=PySem.W.hideAll_none (Fk h H) hm
  rw [z] at e;cases e
def MU (g h:Heap) (L:Addr):List (Addr×Obj):=(List.range h.objs.size).filterMap λa=>if a=L\/(g.get? a).isSome=true then none else(h.get? a).map λo=>(a,o)
def rest (g h:Heap) (L d:Addr):List (Addr×Obj):=(MU g h L).filter λp=>decide (p.1≠d)
end L2
namespace L2
open PySem PySem.Spec PyProof.Rows
variable {g' : Array GenState} {t' i : Nat} {d' : Drawn} {ch : List Addr} {M : Model} {E : Value -> Shared -> Prop} {v : V} {u : Value} {Q : Unit -> Shared -> Prop}
structure Mod (K:PySem.W.Frag) (mg:Str->Option Value) (base:Heap):Prop where
 kin:K.In base
 glob:base.Ns mainGlobals mg
 blt:∃mb,base.Ns builtinsNs mb/\∀x:Str,x≠ "__name__" ->mb x=bootBuiltins x
 nolimit:base.NoLimit
structure Cx where
 prog:Program
 w:World
 K:PySem.W.Frag
 mg:Str->Option Value
 base:Heap
 A:Around
 N:List Str
 s₀:Shared
 H₀:Hp
 env:Env
 outer:List Env
 stack:List Env
 ex:List Addr
 fn:Str->Bool
 calm:Bool
 pn:List (Addr×Obj)
 xe:Value->Shared->Prop
def Br (l:List Env):List Addr:=l.filterMap (·.frame)
abbrev Cx.fs (X:Cx):List Addr:=Br X.outer
def ED (sc:Scope) (x:Str):Prop:=sc.names.lookup x=some .local \/sc.names.lookup x=some .cell\/sc.names.lookup x=some .free
def DJ (sc:Scope) (x:Str):Prop:=sc.names.lookup x=some .local \/sc.names.lookup x=some .cell
def MV (env:Env) (h:Heap) (m:Str->Option Value) (x:Str) (u:Value):Prop:=
 (env.kindOf x=some .local /\m x=some u)\/((env.kindOf x=some .cell\/env.kindOf x=some .free)/\∃c,env.cells.lookup x=some c/\h.IsCell c (some u))
structure Cx.Ok (X:Cx):Prop where
 mod:Mod X.K X.mg X.base
 kind:X.env.scope.kind= .function
 glob:X.env.globals=mainGlobals
 blt:X.env.builtins=builtinsNs
 above:X.s₀.heap.objs.size<=X.env.locals
 inj:∀x y c,X.env.cells.lookup x=some c->X.env.cells.lookup y=some c->x=y
 has:∀x,(X.env.kindOf x=some .cell\/X.env.kindOf x=some .free)->∃c,X.env.cells.lookup x=some c
 cab:∀x c,X.fn x=true->X.env.cells.lookup x=some c->X.s₀.heap.objs.size<=c
 hd:X.calm=true->X.A.handled=none
 frames:X.A.frames=some X.stack
 stk:X.stack=X.outer\/(X.stack=X.env::X.outer/\X.env.frame=some X.env.locals)
 exf:∀b∈X.ex,b≠X.env.locals/\∀x c,X.env.cells.lookup x=some c->c≠b
 bs:∀b o,X.base.get? b=some o->X.s₀.heap.get? b=some o/\X.H₀ b=none
 bsz:X.base.objs.size<=X.s₀.heap.objs.size
 noex:∀b o,X.base.get? b=some o->b ∉ X.ex
 exfs:∀b∈X.ex,b ∉ X.fs
 funs:X.s₀.heap.FunFrames X.base X.outer
 frf:∀b∈X.fs,X.H₀ b=none
structure Ac (X:Cx) (pins:List (Addr×Obj)) (σ:List (Option V)) (H:Hp) (s:Shared):Prop where
 ok:X.Ok
 os:s.os=X.s₀.os
 bare:AllBare s.gens
 base:Un X.fs X.ex X.H₀ H X.s₀.heap s.heap
 loc:∃m,s.heap.Ns X.env.locals m/\∀(i:Nat) (x:Str) (v:V),X.N[i]? =some x->σ[i]? =some (some v)->ED X.env.scope x->∃u,Av v u/\MV X.env s.heap m x u
 cell:∀x c,X.env.cells.lookup x=some c->∃v,s.heap.IsCell c v
 free:H X.env.locals=none
 freeC:∀x c,X.env.cells.lookup x=some c->H c=none
 pin:∀p∈X.pn++pins,s.heap.get? p.1=some p.2/\H p.1=none/\p.1≠X.env.locals/\p.1 ∉ X.fs/\∀v,p.2.data≠ .cell v
 hok:HOk X.prog X.w H s.heap
 len:σ.length=X.N.length
section
variable {X : Cx} {pins : List (Addr × Obj)} {σ : List (Option V)} {H H' : Hp} {s : Shared} {h' : Heap}
theorem Cx.Ok.nofr (ok:X.Ok) {b:Addr}{o:Obj} (e:X.base.get? b=some o):b ∉ X.fs:=λhb=>by
 have:=(ok.funs.mem hb).1
 rw [e] at this;cases this
theorem Ac.bs (I:Ac X pins σ H s):∀b o,X.base.get? b=some o->s.heap.get? b=some o/\H b=none:=λb o e=>
 ⟨I.base.keep b o (I.ok.bs b o e).1 (I.ok.bs b o e).2 (I.ok.nofr e) (I.ok.noex b o e),I.base.free b o (I.ok.bs b o e).1 (I.ok.bs b o e).2 (I.ok.noex b o e)⟩
theorem Ac.bk (I:Ac X pins σ H s):∀b o,X.base.get? b=some o->s.heap.get? b=some o:=λb o e=>(I.bs b o e).1
theorem Ac.mod (I:Ac X pins σ H s):Mod X.K X.mg X.base:=I.ok.mod
theorem Ac.kIn (I:Ac X pins σ H s):X.K.In s.heap:=I.ok.mod.kin.keeps I.bk
theorem Ac.lt (I:Ac X pins σ H s):X.env.locals<s.heap.objs.size:=let ⟨_,hn,_⟩:=I.loc;hn.lt
theorem Ac.sz (I:Ac X pins σ H s):X.s₀.heap.objs.size<=s.heap.objs.size:=Nat.le_trans I.ok.above (Nat.le_of_lt I.lt)
theorem Ac.nofs (I:Ac X pins σ H s) {a:Addr} (h:s.heap.objs.size<=a):a ∉ X.fs:=λhb=>by
 obtain⟨_,o,ho,_⟩:=I.ok.funs.mem hb
 exact absurd (Nat.lt_of_lt_of_le (Heap.lt_size ho) (Nat.le_trans I.sz h)) (Nat.lt_irrefl _)
theorem Ac.cne (I:Ac X pins σ H s):∀x c,X.env.cells.lookup x=some c->c≠X.env.locals:=λx c e z=>by
 obtain⟨v,o,ho,hd⟩:=I.cell x c e
 obtain⟨m,⟨o',es,ep,ho',hd',_⟩,_⟩:=I.loc
 rw [z,ho'] at ho;cases ho;rw [hd'] at hd;cases hd
theorem Ac.funs (I:Ac X pins σ H s):s.heap.FunFrames X.base X.outer:=by
 have all:∀(l:List Env),(∀b∈Br l,b∈X.fs)->X.s₀.heap.FunFrames X.base l->s.heap.FunFrames X.base l:=by
  intro l
  induction l with
  | nil=>intro _ _;trivial
  | cons env r ih=>
   intro hs hl
   obtain⟨hk,⟨L,o,hf,hn,ho,hd⟩,hr⟩:=hl
   have hL:L∈X.fs:=hs L (by unfold Br;rw [List.filterMap_cons,hf];exact List.mem_cons_self)
   obtain⟨sl,e⟩:=I.base.slot L o ho (I.ok.frf L hL) hL λz=>I.ok.exfs L z hL
   exact⟨hk,⟨L,_,hf,hn,e,hd⟩,ih (λb hb=>hs b (by unfold Br;rw [List.filterMap_cons,hf];exact List.mem_cons_of_mem _ hb)) hr⟩
 exact all X.outer (λ_ hb=>hb) I.ok.funs
theorem Ac.stack (I:Ac X pins σ H s):s.heap.FunFrames X.base X.stack:=by
 rcases I.ok.stk with e | ⟨e,hf⟩
 ·rw [e];exact I.funs
 ·rw [e]
  obtain⟨m,hn,_⟩:=I.loc
  refine .cons (by rw [I.ok.kind];decide) hf hn ?_ I.funs
  exact Heap.get?_none_of_le (Nat.le_trans I.ok.bsz I.ok.above)
theorem Ac.stkSub (I:Ac X pins σ H s):∀b∈Br X.stack,b∈X.env.locals::X.fs:=λb hb=>by
 rcases I.ok.stk with e | ⟨e,hf⟩
 ·rw [e] at hb;exact List.mem_cons_of_mem _ hb
 ·rw [e] at hb
  unfold Br at hb
  rw [List.filterMap_cons,hf] at hb
  exact hb
theorem Ac.stkFree (I:Ac X pins σ H s):∀b∈Br X.stack,H b=none:=λb hb=>by
 rcases List.mem_cons.mp (I.stkSub b hb) with e | hb
 ·rw [e];exact I.free
 ·obtain⟨_,o,ho,_⟩:=I.ok.funs.mem hb
  exact I.base.free b o ho (I.ok.frf b hb) λz=>I.ok.exfs b z hb
theorem Ac.step (I:Ac X pins σ H s)
  (hch:∀b∈ch,(b∈X.ex\/X.s₀.heap.objs.size<=b)/\b≠X.env.locals/\(∀x c,X.env.cells.lookup x=some c->c≠b)/\∀p∈X.pn++pins,p.1≠b)
  (keep:∀b o,b≠X.env.locals->b ∉ X.fs->b ∉ ch->s.heap.get? b=some o->H b=none->h'.get? b=some o)
  (slot:∀b o,b≠X.env.locals->b∈X.fs->b ∉ ch->s.heap.get? b=some o->H b=none->∃sl,h'.get? b=some { o with slots:=sl}) (free:∀b o,b ∉ ch->s.heap.get? b=some o->H b=none->H' b=none)
  (there:∀b o,b ∉ ch->s.heap.get? b=some o->∃o',h'.get? b=some o')
  (tups:∀b xs,H b=some (.tup xs)->H' b=some (.tup xs)) (frzs:∀b o u,H b=some (.frz o u)->H' b=some (.frz o u)) (tbls:∀b ps,H b=some (.tbl ps)->∃more,H' b=some (.tbl (ps++more)))
  (ns:∀m,s.heap.Ns X.env.locals m->h'.Ns X.env.locals m) (hok:HOk X.prog X.w H' h') (hg:AllBare g'):
  Ac X pins σ H' { s with heap:=h',gens:=g',drawn:=d',toks:=t'}:=by
 have neL:∀b o,X.s₀.heap.get? b=some o->b≠X.env.locals:=λb o e=>Nat.ne_of_lt (Nat.lt_of_lt_of_le (Heap.lt_size e) I.ok.above)
 have neC:∀b o,X.s₀.heap.get? b=some o->b ∉ X.ex->b ∉ ch:=λb o e hx hb=>by
  rcases(hch b hb).1 with z | z
  ·exact hx z
  ·exact absurd (Nat.lt_of_lt_of_le (Heap.lt_size e) z) (Nat.lt_irrefl _)
 have cellK:∀x c,X.env.cells.lookup x=some c->∀v,s.heap.IsCell c v->h'.IsCell c v:=λx c e v ⟨o,ho,hd⟩=>by
  have nch:c ∉ ch:=λz=>(hch c z).2.2.1 x c e rfl
  by_cases hc:c∈X.fs
  ·obtain⟨sl,q⟩:=slot c o (I.cne x c e) hc nch ho (I.freeC x c e)
   exact⟨_,q,hd⟩
  ·exact⟨o,keep c o (I.cne x c e) hc nch ho (I.freeC x c e),hd⟩
 refine⟨I.ok,I.os,hg,⟨λb o e n hb hx=>?_,λb o e n hb hx=>?_,λb o e n hx=>?_,λb o e hx=>?_,λb xs e=>tups b xs (I.base.tups b xs e),λb o xs e=>frzs b o xs (I.base.frzs b o xs e),λb ps e=>?_⟩,?_,λx c e=>?_,?_,λx c e=>?_,λp hp=>?_,hok,I.len⟩
 ·exact keep b o (neL b o e) hb (neC b o e hx) (I.base.keep b o e n hb hx) (I.base.free b o e n hx)
 ·obtain⟨sl,e1⟩:=I.base.slot b o e n hb hx
  obtain⟨sl',e2⟩:=slot b _ (neL b o e) hb (neC b o e hx) e1 (I.base.free b o e n hx)
  exact⟨sl',e2⟩
 ·obtain⟨o',e1⟩:=I.base.there b o e hx
  exact free b o' (neC b o e hx) e1 (I.base.free b o e n hx)
 ·obtain⟨o',e1⟩:=I.base.there b o e hx
  exact there b o' (neC b o e hx) e1
 ·obtain⟨m1,e1⟩:=I.base.tbls b ps e
  obtain⟨m2,e2⟩:=tbls b _ e1
  exact⟨m1++m2,by rw [e2,Array.append_assoc]⟩
 ·obtain⟨m,hn,hl⟩:=I.loc
  refine⟨m,ns m hn,λi x v e1 e2 e3=>?_⟩
  obtain⟨u,r,l⟩:=hl i x v e1 e2 e3
  refine⟨u,r,?_⟩
  rcases l with l | ⟨k,c,e,z⟩
  ·exact .inl l
  ·exact .inr ⟨k,c,e,cellK x c e _ z⟩
 ·obtain⟨v,z⟩:=I.cell x c e
  exact⟨v,cellK x c e v z⟩
 ·obtain⟨m,⟨o,_,_,ho,_⟩,_⟩:=I.loc
  exact free _ o (λz=>(hch _ z).2.1 rfl) ho I.free
 ·obtain⟨v,o,ho,hd⟩:=I.cell x c e
  exact free c o (λz=>(hch c z).2.2.1 x c e rfl) ho (I.freeC x c e)
 ·obtain⟨e,n,ne,nf,d⟩:=I.pin p hp
  have nch:p.1 ∉ ch:=λz=>(hch p.1 z).2.2.2 p hp rfl
  exact⟨keep p.1 p.2 ne nf nch e n,free p.1 p.2 nch e n,ne,nf,d⟩
theorem Ac.un (I:Ac X pins σ H s) (u:Un X.fs [] H H' s.heap h') (hok:HOk X.prog X.w H' h'):Ac X pins σ H' { s with heap:=h',toks:=t'}:=by
 obtain⟨m,⟨o,es,ep,ho,r⟩,_⟩:=id I.loc
 obtain⟨sl,hL⟩:=u.any ho I.free (by simp)
 exact I.step (g':=s.gens) (d':=s.drawn) (ch:=[]) (λ_ z=>nomatch z) (λb o _ hb _ e n=>u.keep b o e n hb (by simp)) (λb o _ hb _ e n=>u.slot b o e n hb (by simp)) (λb o _ e n=>u.free b o e n (by simp)) (λb o _ e=>u.there b o e (by simp)) u.tups u.frzs u.tbls (λm' hm=>by
  obtain⟨o',es',ep',ho',r'⟩:=hm
  rw [ho] at ho';cases ho'
  exact⟨_,es',ep',hL,r'⟩) hok I.bare
theorem Ac.call (I:Ac X pins σ H s) (u:Un (Br X.stack) ch H H' s.heap h') (hok:HOk X.prog X.w H' h') (hg:AllBare g')
  (hch:∀b∈ch,(b∈X.ex\/X.s₀.heap.objs.size<=b)/\b≠X.env.locals/\(∀x c,X.env.cells.lookup x=some c->c≠b)/\∀p∈X.pn++pins,p.1≠b):
  Ac X pins σ H' { s with heap:=h',gens:=g',drawn:=d',toks:=t'}:=by
 obtain⟨m,⟨o,es,ep,ho,r⟩,_⟩:=id I.loc
 obtain⟨sl,hL⟩:=u.any ho I.free λz=>(hch _ z).2.1 rfl
 exact I.step (ch:=ch) hch (λb o hL hb hc e n=>u.keep b o e n (λz=>(List.mem_cons.mp (I.stkSub b z)).elim hL hb) hc) (λb o _ _ hc e n=>u.any e n hc) (λb o hc e n=>u.free b o e n hc) (λb o hc e=>u.there b o e hc) u.tups u.frzs u.tbls (λm' hm=>by
  obtain⟨o',es',ep',ho',r'⟩:=hm
  rw [ho] at ho';cases ho'
  exact⟨_,es',ep',hL,r'⟩) hok hg
theorem Ac.turned {it:Addr} (I:Ac X pins σ H s) (k:∀b o,b≠it->s.heap.get? b=some o->h'.get? b=some o) (hn:H it=none) (hL:it≠X.env.locals)
  (h1:it∈X.ex\/X.s₀.heap.objs.size<=it) (h2:∀x c,X.env.cells.lookup x=some c->c≠it) (h3:∀p∈X.pn++pins,p.1≠it):Ac X pins σ H { s with heap:=h',toks:=t'}:=by
 have nit:∀b u,H b=some u->b≠it:=λb u e z=>by rw [z,hn] at e;cases e
 refine I.step (g':=s.gens) (d':=s.drawn) (ch:=[it]) (λb hb=>?_) (λb o _ _ hc e _=>k b o (λz=>hc (by simp [z])) e) (λb o _ _ hc e _=>⟨o.slots,k b o (λz=>hc (by simp [z])) e⟩) (λ_ _ _ _ n=>n)
  (λb o hc e=>⟨o,k b o (λz=>hc (by simp [z])) e⟩) (λ_ _ e=>e) (λ_ _ _ e=>e) (λb ps e=>⟨#[],by rw [e];simp⟩) (λm hm=>?_) (λb u e=>?_) I.bare
 ·have e:b=it:=by simpa using hb
  subst e
  exact⟨h1,hL,h2,h3⟩
 ·obtain⟨o,es,ep,ho,r⟩:=hm
  exact⟨o,es,ep,k _ o (Ne.symm hL) ho,r⟩
 ·refine(I.hok b u e).stay (λc v hc q=>k c v ?_ q) (λ_ q=>q) λ_ _ q=>q
  rcases hc with z | z
  ·rw [z];exact nit b u e
  ·exact nit c _ z
theorem Ac.tok (I:Ac X pins σ H s) (t:Nat):Ac X pins σ H { s with toks:=t}:=I.un (h':=s.heap) (t':=t) Un.refl I.hok
theorem Ac.kept (I:Ac X pins σ H s) (k:∀b u,s.heap.get? b=some u->h'.get? b=some u):Ac X pins σ H { s with heap:=h',toks:=t'}:=I.un (Un.kept k) (I.hok.kept k)
theorem Ac.laid {a:Addr}{o:HO} (I:Ac X pins σ H s) (k:∀b u,s.heap.get? b=some u->h'.get? b=some u) (hp:s.heap.objs.size<=a) (new:ObjOk X.prog X.w (upd H a o) h' a o):
  Ac X pins σ (upd H a o) { s with heap:=h',toks:=t'}:=I.un (Un.laid k hp (I.hok.fresh hp)) (I.hok.laid k hp new)
theorem Ac.write {x e:Addr}{o:HO} (I:Ac X pins σ H s) (mu:EC (H x)) (he:e=x\/H e=some (.own x)) (k:∀b u,b≠e->s.heap.get? b=some u->h'.get? b=some u) (heo:∃u,h'.get? e=some u)
  (new:ObjOk X.prog X.w (upd H x o) h' x o):Ac X pins σ (upd H x o) { s with heap:=h',toks:=t'}:=I.un (Un.write mu he k heo) (I.hok.write mu he k heo new)
theorem Ac.weak {σ':List (Option V)} (I:Ac X pins σ H s) (hl:σ'.length=σ.length) (w:∀(i:Nat) v,σ'[i]? =some (some v)->σ[i]? =some (some v)):Ac X pins σ' H s:=
 ⟨I.ok,I.os,I.bare,I.base,let ⟨m,hn,hl'⟩:=I.loc;⟨m,hn,λi x v e1 e2 e3=>hl' i x v e1 (w i v e2) e3⟩,I.cell,I.free,I.freeC,I.pin,I.hok,hl.trans I.len⟩
theorem Ac.pins_of {pins':List (Addr×Obj)} (I:Ac X pins σ H s) (h:∀p∈pins',s.heap.get? p.1=some p.2/\H p.1=none/\p.1≠X.env.locals/\p.1 ∉ X.fs/\∀v,p.2.data≠ .cell v):Ac X pins' σ H s:=
 ⟨I.ok,I.os,I.bare,I.base,I.loc,I.cell,I.free,I.freeC,λp hp=>(List.mem_append.mp hp).elim (λz=>I.pin p (List.mem_append_left _ z)) (h p),I.hok,I.len⟩
theorem Jf {N:List Str} (hN:N.Nodup) {i j:Nat}{x:Str} (a:N[i]? =some x) (b:N[j]? =some x):i=j:=by
 obtain⟨h1,e1⟩:=List.getElem?_eq_some_iff.mp a
 obtain⟨h2,e2⟩:=List.getElem?_eq_some_iff.mp b
 exact(List.getElem_inj hN).mp (e1.trans e2.symm)
theorem Hn {A:Around}{x:Str} (I:Ac X pins σ H s) (hN:X.N.Nodup) (hi:X.N[i]? =some x) (hx:DJ X.env.scope x) (r:Av v u)
  (h:∀s',Ac X pins (σ.set i (some v)) H s'->(∃a,Heap.SameBut a s.heap s'.heap/\(a=X.env.locals\/X.env.cells.lookup x=some a))->Q () s') (hf:X.fn x=true\/X.env.scope.names.lookup x=some .local :=by first | exact .inl rfl | exact .inr rfl | assumption):wpAny M A (storeName X.env x u) Q E s:=by
 obtain⟨m,hn,hl⟩:=id I.loc
 have hcls:(X.env.scope.kind== .class || (X.env.scope.kind== .module && X.env.locals !=X.env.globals))=false:=by rw [I.ok.kind];rfl
 have hiσ:i<σ.length:=by rw [I.len];exact(List.getElem?_eq_some_iff.mp hi).1
 have cne:=I.cne
 have tracked:∀ {a:Addr}{h':Heap},(∃o,s.heap.get? a=some o/\H a=none)->Heap.SameBut a s.heap h'->HOk X.prog X.w H h':=λ{a h'} ha hs b ob e=>by
  obtain⟨_,_,hfree⟩:=ha
  refine(I.hok b ob e).stay (λc w' hc q=>(hs.2 c ?_).trans q) (λ_ q=>q) λ_ _ q=>q
  rintro rfl
  rcases hc with rfl | hc
  ·rw [hfree] at e;cases e
  ·rw [hfree] at hc;cases hc
 rcases hx with hk | hk
 ·refine wpAny_storeName_local hk hn (λh' hn' hs=>?_) hcls
  obtain⟨oL,_,_,hoL,_⟩:=id hn
  refine h _ ⟨I.ok,I.os,I.bare,⟨λb o e n hb hx=>?_,λb o e n hb hx=>?_,I.base.free,λb o e hx=>?_,I.base.tups,I.base.frzs,I.base.tbls⟩,⟨_,hn',λj y v' e1 e2 e3=>?_⟩,λy c e=>?_,I.free,I.freeC,λp hp=>?_,tracked ⟨oL,hoL,I.free⟩ hs,by simpa using I.len⟩ ⟨_,hs,.inl rfl⟩
  ·exact(hs.2 b (Nat.ne_of_lt (Nat.lt_of_lt_of_le (Heap.lt_size e) I.ok.above))).trans (I.base.keep b o e n hb hx)
  ·obtain⟨sl,e1⟩:=I.base.slot b o e n hb hx
   exact⟨sl,(hs.2 b (Nat.ne_of_lt (Nat.lt_of_lt_of_le (Heap.lt_size e) I.ok.above))).trans e1⟩
  ·obtain⟨o',e1⟩:=I.base.there b o e hx
   exact⟨o',(hs.2 b (Nat.ne_of_lt (Nat.lt_of_lt_of_le (Heap.lt_size e) I.ok.above))).trans e1⟩
  ·by_cases hj:j=i
   ·subst hj
    rw [hi] at e1;cases e1
    rw [List.getElem?_set_self hiσ] at e2
    cases e2
    exact⟨u,r,.inl ⟨hk,by simp⟩⟩
   ·rw [List.getElem?_set_ne (Ne.symm hj)] at e2
    obtain⟨u',r',q⟩:=hl j y v' e1 e2 e3
    refine⟨u',r',?_⟩
    rcases q with⟨k,e⟩ | ⟨k,c,e,z⟩
    ·refine .inl ⟨k,?_⟩
     have:y≠x:=λe=>hj (Jf hN e1 (e ▸ hi))
     simp [this,e]
    ·exact .inr ⟨k,c,e,z.sameBut hs (cne y c e)⟩
  ·obtain⟨w',z⟩:=I.cell y c e
   exact⟨w',z.sameBut hs (cne y c e)⟩
  ·obtain⟨e,n,ne,nf,d⟩:=I.pin p hp
   exact⟨(hs.2 p.1 ne).trans e,n,ne,nf,d⟩
 ·have hfn:X.fn x=true:=by
   rcases hf with z | z
   ·exact z
   ·rw [z] at hk;cases hk
  obtain⟨c,hc⟩:=I.ok.has x (.inl hk)
  obtain⟨w',z⟩:=I.cell x c hc
  refine wpAny_storeName_cell I.ok.kind hk hc z (λh' hc' hs=>?_)
  obtain⟨oc,hoc,hocd⟩:=id z
  refine h { s with heap:=h'} ⟨I.ok,I.os,I.bare,⟨λb o e n hb hx=>?_,λb o e n hb hx=>?_,I.base.free,λb o e hx=>?_,I.base.tups,I.base.frzs,I.base.tbls⟩,⟨m,hn.sameBut hs (Ne.symm (cne x c hc)),λj y v' e1 e2 e3=>?_⟩,λy c' e=>?_,I.free,I.freeC,λp hp=>?_,tracked ⟨oc,hoc,I.freeC x c hc⟩ hs,by simpa using I.len⟩ ⟨c,hs,.inr hc⟩
  ·exact(hs.2 b (Nat.ne_of_lt (Nat.lt_of_lt_of_le (Heap.lt_size e) (I.ok.cab x c hfn hc)))).trans (I.base.keep b o e n hb hx)
  ·obtain⟨sl,e1⟩:=I.base.slot b o e n hb hx
   exact⟨sl,(hs.2 b (Nat.ne_of_lt (Nat.lt_of_lt_of_le (Heap.lt_size e) (I.ok.cab x c hfn hc)))).trans e1⟩
  ·obtain⟨o',e1⟩:=I.base.there b o e hx
   exact⟨o',(hs.2 b (Nat.ne_of_lt (Nat.lt_of_lt_of_le (Heap.lt_size e) (I.ok.cab x c hfn hc)))).trans e1⟩
  ·by_cases hj:j=i
   ·subst hj
    rw [hi] at e1;cases e1
    rw [List.getElem?_set_self hiσ] at e2
    cases e2
    exact⟨u,r,.inr ⟨.inl hk,c,hc,hc'⟩⟩
   ·rw [List.getElem?_set_ne (Ne.symm hj)] at e2
    obtain⟨u',r',q⟩:=hl j y v' e1 e2 e3
    refine⟨u',r',?_⟩
    rcases q with q | ⟨k,c',e,z'⟩
    ·exact .inl q
    ·refine .inr ⟨k,c',e,z'.sameBut hs ?_⟩
     rintro rfl
     exact hj (Jf hN e1 (I.ok.inj _ _ _ e hc ▸ hi))
  ·by_cases hcc:c'=c
   ·subst hcc;exact⟨_,hc'⟩
   ·obtain⟨w2,z2⟩:=I.cell y c' e
    exact⟨w2,z2.sameBut hs hcc⟩
  ·obtain⟨e,n,ne,nf,d⟩:=I.pin p hp
   refine⟨(hs.2 p.1 ?_).trans e,n,ne,nf,d⟩
   intro q
   rw [q,hoc] at e
   have q':oc=p.2:=Option.some.inj e
   exact d w' (by rw [<-q'];exact hocd)
theorem Fl {A:Around}{x:Str} (I:Ac X pins σ H s) (hN:X.N.Nodup) (hi:X.N[i]? =some x) (hx:DJ X.env.scope x) (r:Av v u)
  (h:∀s',Ac X pins (σ.set i (some v)) H s'->Q () s') (hf:X.fn x=true\/X.env.scope.names.lookup x=some .local :=by first | exact .inl rfl | exact .inr rfl | assumption):wpAny M A (storeName X.env x u) Q E s:=
 Hn I hN hi hx r (λs' I' _=>h s' I') hf
theorem Ac.call' {s':Shared} (I:Ac X pins σ H s) (ho:s'.os=s.os) (u:Un (Br X.stack) ch H H' s.heap s'.heap) (hok:HOk X.prog X.w H' s'.heap) (hg:AllBare s'.gens)
  (hch:∀b∈ch,(b∈X.ex\/X.s₀.heap.objs.size<=b)/\b≠X.env.locals/\(∀x c,X.env.cells.lookup x=some c->c≠b)/\∀p∈X.pn++pins,p.1≠b):Ac X pins σ H' s':=by
 obtain⟨h',g',d',t',o'⟩:=s'
 have e:o'=s.os:=ho
 subst e
 exact I.call (g':=g') (t':=t') (d':=d') u hok hg hch
end
abbrev XK:=Value->Option Addr->Hp->Prop
abbrev St:=List (Option V)
abbrev VK:=V->Hp->Prop
abbrev TE:=St->Hp->VK->Prop
abbrev TT:=St->Hp->(Bool->Hp->Prop)->Prop
abbrev TA:=St->Hp->(List V->Hp->Prop)->Prop
structure CD where
 nx:St->Hp->Prop
 rt:VK
 bk:St->Hp->Prop:=λ_ _=>False
 ct:St->Hp->Prop:=λ_ _=>False
abbrev TS:=CD->St->Hp->Prop
def EP (X:Cx) (pins:List (Addr×Obj)) (σ:St) (Q:VK) (u:Value) (s':Shared):Prop:=∃v H',Ac X pins σ H' s'/\Av v u/\Q v H'
def TP (X:Cx) (pins:List (Addr×Obj)) (σ:St) (Q:Bool->Hp->Prop) (b:Bool) (s':Shared):Prop:=∃H',Ac X pins σ H' s'/\Q b H'
def AP (X:Cx) (pins:List (Addr×Obj)) (σ:St) (Q:List V->Hp->Prop) (us:List Value) (s':Shared):Prop:=∃vs H',Ac X pins σ H' s'/\Au vs us/\Q vs H'
def SP (X:Cx) (pins:List (Addr×Obj)) (D:CD) (f:Flow) (s':Shared):Prop:=
 match f with
 | .next=>∃σ' H',Ac X pins σ' H' s'/\D.nx σ' H'
 | .brk=>∃σ' H',Ac X pins σ' H' s'/\D.bk σ' H'
 | .cont=>∃σ' H',Ac X pins σ' H' s'/\D.ct σ' H'
 | .ret u=>∃v σ' H',Ac X pins σ' H' s'/\Av v u/\D.rt v H'
def PE (X:Cx) (e:Expr) (t:TE):Prop:=
 ∀(pins:List (Addr×Obj)) (s:Shared) (σ:St) (H:Hp) (Q:VK),Ac X pins σ H s->t σ H Q->wpAny (model X.prog X.w) X.A (eval e X.env) (EP X pins σ Q) X.xe s
def PT (X:Cx) (e:Expr) (t:TT):Prop:=
 ∀(pins:List (Addr×Obj)) (s:Shared) (σ:St) (H:Hp) (Q:Bool->Hp->Prop),Ac X pins σ H s->t σ H Q->wpAny (model X.prog X.w) X.A (isTrue e X.env (eval e X.env)) (TP X pins σ Q) X.xe s
def PW (X:Cx) (e:Expr) (t:TT):Prop:=
 ∀(whole:Sem Value) (pins:List (Addr×Obj)) (s:Shared) (σ:St) (H:Hp) (Q:Bool->Hp->Prop),Ac X pins σ H s->t σ H Q->wpAny (model X.prog X.w) X.A (isTrue e X.env whole) (TP X pins σ Q) X.xe s
theorem PW.pt {X:Cx}{e:Expr}{t:TT} (h:PW X e t):PT X e t:=h _
def PA (X:Cx) (es:List Expr) (t:TA):Prop:=
 ∀(pos:Pos) (pins:List (Addr×Obj)) (s:Shared) (σ:St) (H:Hp) (Q:List V->Hp->Prop),Ac X pins σ H s->t σ H Q->wpAny (model X.prog X.w) X.A (spliced (backTo pos (starEach es X.env))) (AP X pins σ Q) X.xe s
def PS (X:Cx) (st:Stmt) (t:TS):Prop:=
 ∀(pins:List (Addr×Obj)) (s:Shared) (σ:St) (H:Hp) (D:CD),Ac X pins σ H s->t D σ H->wpAny (model X.prog X.w) X.A (exec st X.env) (SP X pins D) X.xe s
def PSs (X:Cx) (st:List Stmt) (t:TS):Prop:=
 ∀(pins:List (Addr×Obj)) (s:Shared) (σ:St) (H:Hp) (D:CD),Ac X pins σ H s->t D σ H->wpAny (model X.prog X.w) X.A (execs st X.env) (SP X pins D) X.xe s
theorem Am {α:Type}{t:Sem α}{Q Q':α->Shared->Prop}{A:Around}{s:Shared} (h:wpAny M A t Q E s) (hQ:∀a s,Q a s->Q' a s):wpAny M A t Q' E s:=wpAny_mono h hQ λ_ _ x=>x
end L2
namespace L2
open PySem PySem.Spec PyProof.Rows
variable {E Q : Value -> Shared -> Prop} {pins : List (Addr × Obj)} {s : Shared} {σ : St} {H : Hp} {u : Value} {v : V}
section
variable {X : Cx}
def Jg (i:Nat):TE:=fun σ H Q=>∃v,σ[i]? =some (some v)/\Q v H
def tC (v:V):TE:=λ_ H Q=>Q v H
theorem Jh {i:Nat}{x:Str}{pos:Pos} (hN:X.N[i]? =some x) (hv:ED X.env.scope x) (hd:(x==("__debug__" :Str))=false:=by decide) (hcd:(x==("__classdict__" :Str))=false:=by decide):PE X (.Name x pos) (Jg i):=by
 intro pins s σ H Q I h
 obtain⟨v,e,h⟩:=h
 obtain⟨m,hn,hl⟩:=I.loc
 obtain⟨u,r,l⟩:=hl i x v hN e hv
 have fin:EP X pins σ Q u s:=⟨v,H,I,r,h⟩
 rcases l with⟨hk,hm⟩ | ⟨hk,c,hc,hcell⟩
 ·exact wpAny_Name (wpAny_loadName_local I.ok.kind hk hn hm fin) hd
 ·rcases hk with hk | hk
  ·exact wpAny_Name (wpAny_loadName_cell I.ok.kind hk hc hcell fin) hd
  ·exact wpAny_Name (wpAny_loadName_free I.ok.kind hk hc hcell fin hcd) hd
theorem Af {i j pos}:PE X (.Constant (.int i) j pos) (tC (.int i)):=λ_ _ _ H _ I h=>wpAny_Constant_int ⟨.int i,H,I.tok _,⟨_,rfl⟩,h⟩
theorem CV {b j pos}:PE X (.Constant (.bool b) j pos) (tC (.bl b)):=λ_ _ _ H _ I h=>Constant_bool ⟨.bl b,H,I,rfl,h⟩
theorem Dj {j pos}:PE X (.Constant .none j pos) (tC .non):=λ_ _ _ H _ I h=>Constant_none ⟨.non,H,I,rfl,h⟩
theorem Dk {x j pos}:PE X (.Constant (.str x) j pos) (tC (.str x)):=λ_ _ _ H _ I h=>Calls.Constant_str ⟨.str x,H,I.tok _,⟨_,rfl⟩,h⟩
def Gl (X:Cx) (x:Str):Prop:=X.env.kindOf x=some .globalImplicit
theorem Ji {x:Str}{pos:Pos} (I:Ac X pins σ H s) (hg:Gl X x) (hm:X.mg x=some u) (h:Q u s)
  (hd:(x==("__debug__" :Str))=false:=by decide):wpAny (model X.prog X.w) X.A (eval (.Name x pos) X.env) Q E s:=
 Calls.Name_function_global I.ok.kind hg (Calls.loadGlobal_global (by rw [I.ok.glob];exact I.mod.glob.keeps I.bk) hm h) hd
theorem B1 {x:Str}{pos:Pos} (I:Ac X pins σ H s) (hg:Gl X x) (hm:X.mg x=none) (hv:bootBuiltins x=some u) (h:Q u s)
  (hn:x≠ "__name__" :=by decide) (hd:(x==("__debug__" :Str))=false:=by decide):wpAny (model X.prog X.w) X.A (eval (.Name x pos) X.env) Q E s:=by
 obtain⟨mb,h1,h2⟩:=I.mod.blt
 exact Calls.Name_function_global I.ok.kind hg (Calls.loadGlobal_builtin (by rw [I.ok.glob];exact I.mod.glob.keeps I.bk) hm (by rw [I.ok.blt];exact h1.keeps I.bk) ((h2 x hn).trans hv) h) hd
theorem Co {x:Str}{pos:Pos} (hg:Gl X x) (hm:X.mg x=some u) (r:Av v u) (hd:(x==("__debug__" :Str))=false:=by decide):PE X (.Name x pos) (tC v):=
 λ_ _ _ H _ I h=>Ji I hg hm ⟨v,H,I,r,h⟩ hd
theorem Ho {x:Str}{pos:Pos} (hg:Gl X x) (hm:X.mg x=none) (hv:bootBuiltins x=some u) (r:Av v u) (hn:x≠ "__name__" :=by decide) (hd:(x==("__debug__" :Str))=false:=by decide):PE X (.Name x pos) (tC v):=
 λ_ _ _ H _ I h=>B1 I hg hm hv ⟨v,H,I,r,h⟩ hn hd
variable {a b : Expr} {ta tb : TE} {pos : Pos}
def tB (t:TE):TT:=fun σ H Q=>t σ H λx H1=>∃c,x= .bl c/\Q c H1
variable {tA tB' : TT} {rest : List Expr}
def MW (t:TT):TT:=fun σ H Q=>t σ H λc H1=>Q (!c) H1
theorem Hq (ha:PT X a tA):PW X (.BoolOp .And [a] pos) tA:=by
 intro wh pins s σ H Q I h
 refine isTrue_and (Am (ha pins s σ H Q I h) λc s1 e=>?_)
 cases c with
 | true=>exact isTrue_and_nil e
 | false=>exact e
theorem Jj (ha:PT X a tA):PW X (.BoolOp .Or [a] pos) tA:=by
 intro wh pins s σ H Q I h
 refine isTrue_or (Am (ha pins s σ H Q I h) λc s1 e=>?_)
 cases c with
 | false=>exact isTrue_or_nil e
 | true=>exact e
theorem CF (ha:PT X a tA):PT X (.UnaryOp .Not a pos) (MW tA):=by
 intro pins s σ H Q I h
 exact isTrue_not (ha pins s σ H (λc H1=>Q (!c) H1) I h)
theorem Cp {op}{t:TE} (h:PE X a t):PE X (.BoolOp op [a] pos) t:=λpins s σ H Q I hw=>BoolOp_one (h pins s σ H Q I hw)
end
end L2
namespace L2
open PySem PySem.Spec PyProof.Rows
variable {P : Program} {tg : Expr}
def An (K:PySem.W.Frag) (H:Hp) (a:Addr) (xs:List V):Prop:=
 Rd H a (.lst xs)\/
  ∃(o:Obj) (its:Array Value) (n:Nat),K.lookup a=some o/\o.cls= .type "list" /\o.dict=none/\o.data= .seq its n/\its.size<=sizeLine/\Au xs its.toList
def Ae (K:PySem.W.Frag) (H:Hp) (a:Addr) (xs:List V):Prop:=
 Rd H a (.tup xs)\/
  ∃(o:Obj) (its:Array Value) (n:Nat),K.lookup a=some o/\o.cls= .type "tuple" /\o.data= .seq its n/\its.size<=sizeLine/\Au xs its.toList
def MX:Value->Option V
 | .none=>some .non
 | .bool b=>some (.bl b)
 | .int i _=>some (.int i)
 | .str x _=>some (.str x)
 | .bytes b _=>some (.byt b)
 | .float b _=>some (.flt b)
 | .ref a=>some (.ref a)
 | .type n=>some (.ty n)
 | _=>none
theorem Av.abs {x:V}{u:Value} (r:Av x u):MX u=some x:=by
 cases x with
 | non=>cases r;rfl
 | bl _=>cases r;rfl
 | int _=>obtain⟨t,rfl⟩:=r;rfl
 | str _=>obtain⟨t,rfl⟩:=r;rfl
 | byt _=>obtain⟨t,rfl⟩:=r;rfl
 | flt _=>obtain⟨t,rfl⟩:=r;rfl
 | ref _=>cases r;rfl
 | ty _=>cases r;rfl
theorem Av.inj {x y:V}{u:Value} (r:Av x u) (q:Av y u):x=y:=Option.some.inj (r.abs.symm.trans q.abs)
theorem Au.inj:∀ {xs ys:List V}{us:List Value},Au xs us->Au ys us->xs=ys
 | _,_,_,.nil,.nil=>rfl
 | _,_,_,.cons r t,.cons r' t'=>by rw [r.inj r',Au.inj t t']
section
variable {X : Cx} {pins : List (Addr × Obj)} {σ : St} {H : Hp} {s : Shared} {a : Addr} {xs ys : List V}
theorem An.of {K:PySem.W.Frag} (h:H a=some (.lst xs)):An K H a xs:= .inl (.inl h)
theorem Ae.of {K:PySem.W.Frag} (h:H a=some (.tup xs)):Ae K H a xs:= .inl (.inl h)
theorem Ac.list (I:Ac X pins σ H s) (h:An X.K H a xs):∃its:List Value,Au xs its/\PlainL s.heap a its.toArray/\xs.length<=sizeLine:=by
 rcases h with h | ⟨o,its,n,hk,hc,hd,hs,hz,r⟩
 ·obtain⟨z,its,n,r,e⟩:=h.ok I.hok
  exact⟨its,r,⟨_,n,e,rfl,rfl,rfl⟩,z⟩
 ·refine⟨its.toList,r,⟨o,n,I.kIn a o hk,hc,hd,by simpa using hs⟩,?_⟩
  have e:=r.length
  simp only [Array.length_toList] at e
  omega
theorem Ac.tuple (I:Ac X pins σ H s) (h:Ae X.K H a xs):∃its:List Value,Au xs its/\IsTup s.heap a its.toArray/\xs.length<=sizeLine:=by
 rcases h with h | ⟨o,its,n,hk,hc,hs,hz,r⟩
 ·obtain⟨z,its,r,p⟩:=h.ok I.hok
  exact⟨its,r,p,z⟩
 ·refine⟨its.toList,r,⟨o,I.kIn a o hk,hc,n,by simpa using hs⟩,?_⟩
  have e:=r.length
  simp only [Array.length_toList] at e
  omega
theorem Ac.list_inj (I:Ac X pins σ H s) (h:An X.K H a xs) (h':An X.K H a ys):xs=ys:=by
 obtain⟨its,r,⟨o,n,e,_,_,d⟩,_⟩:=I.list h
 obtain⟨its',r',⟨o',n',e',_,_,d'⟩,_⟩:=I.list h'
 rw [e] at e';cases e'
 rw [d] at d'
 injection d' with d1 _
 have:its=its':=by simpa using congrArg Array.toList d1
 subst this
 exact r.inj r'
theorem Ac.tuple_inj (I:Ac X pins σ H s) (h:Ae X.K H a xs) (h':Ae X.K H a ys):xs=ys:=by
 obtain⟨its,r,⟨o,e,_,n,d⟩,_⟩:=I.tuple h
 obtain⟨its',r',⟨o',e',_,n',d'⟩,_⟩:=I.tuple h'
 rw [e] at e';cases e'
 rw [d] at d'
 injection d' with d1 _
 have:its=its':=by simpa using congrArg Array.toList d1
 subst this
 exact r.inj r'
end
abbrev Cx.wish (X:Cx) (E:Value->Shared->Prop):Cx:= { X with xe:=E}
abbrev Cx.nox (X:Cx):Cx:=X.wish λ_ _=>False
theorem Cx.Ok.wish {X:Cx} (ok:X.Ok) (E:Value->Shared->Prop):(X.wish E).Ok:=
 ⟨ok.mod,ok.kind,ok.glob,ok.blt,ok.above,ok.inj,ok.has,ok.cab,ok.hd,ok.frames,ok.stk,ok.exf,ok.bs,ok.bsz,ok.noex,ok.exfs,ok.funs,ok.frf⟩
theorem Cx.Ok.unwish {X:Cx}{E:Value->Shared->Prop} (ok:(X.wish E).Ok):X.Ok:=
 ⟨ok.mod,ok.kind,ok.glob,ok.blt,ok.above,ok.inj,ok.has,ok.cab,ok.hd,ok.frames,ok.stk,ok.exf,ok.bs,ok.bsz,ok.noex,ok.exfs,ok.funs,ok.frf⟩
section
variable {X : Cx} {pins : List (Addr × Obj)} {σ : St} {H : Hp} {s : Shared} {E : Value -> Shared -> Prop}
theorem Ac.wish (I:Ac X pins σ H s) (E:Value->Shared->Prop):Ac (X.wish E) pins σ H s:=⟨I.ok.wish E,I.os,I.bare,I.base,I.loc,I.cell,I.free,I.freeC,I.pin,I.hok,I.len⟩
theorem Ac.unwish (I:Ac (X.wish E) pins σ H s):Ac X pins σ H s:=⟨I.ok.unwish,I.os,I.bare,I.base,I.loc,I.cell,I.free,I.freeC,I.pin,I.hok,I.len⟩
theorem SP.unwish {D:CD}{f:Flow}{s':Shared} (h:SP (X.wish E) pins D f s'):SP X pins D f s':=by
 cases f with
 | next=>obtain⟨σ',H',I,q⟩:=h;exact⟨σ',H',I.unwish,q⟩
 | brk=>obtain⟨σ',H',I,q⟩:=h;exact⟨σ',H',I.unwish,q⟩
 | cont=>obtain⟨σ',H',I,q⟩:=h;exact⟨σ',H',I.unwish,q⟩
 | ret u=>obtain⟨v,σ',H',I,r,q⟩:=h;exact⟨v,σ',H',I.unwish,r,q⟩
theorem PSs.nox {st:List Stmt}{t:TS} (h:PSs X.nox st t):PSs X st t:=λpins s σ H D I hw=>
 wpAny_mono (h pins s σ H D (I.wish _) hw) (λ_ _ q=>q.unwish) λ_ _ z=>False.elim z
end
section
variable {X : Cx} {st : Stmt} {rest : List Stmt} {t u : TS} {e : Expr} {te : TE} {pos : Pos}
def MY:TS:=λD σ H=>D.nx σ H
def MZ (t u:TS):TS:=λD σ H=>t { D with nx:=u D} σ H
theorem A7:PSs X [] MY:=λ_ _ σ H _ I h=>wpAny_execs_nil ⟨σ,H,I,h⟩
theorem Ak (h1:PS X st t) (h2:PSs X rest u):PSs X (st::rest) (MZ t u):=by
 intro pins s σ H D I h
 refine wpAny_execs_cons (Am (h1 pins s σ H { D with nx:=u D} I h) λf s1 q=>?_)
 cases f with
 | next=>
  obtain⟨σ',H',I',q⟩:=q
  exact h2 pins s1 σ' H' D I' q
 | ret v=>exact q
 | brk=>exact q
 | cont=>exact q
theorem Ao (h1:PS X st t):PSs X [st] t:=by
 intro pins s σ H D I h
 refine wpAny_execs_cons (Am (h1 pins s σ H D I h) λf s1 q=>?_)
 cases f with
 | next=>exact wpAny_execs_nil q
 | ret v=>exact q
 | brk=>exact q
 | cont=>exact q
theorem Ac.quiet {pins:List (Addr×Obj)}{σ:St}{H:Hp}{s:Shared} (I:Ac X pins σ H s):interactive X.env=false:=by simp [interactive,I.ok.kind]
def M0 (te:TE):TS:=λD σ H=>te σ H λ_ H1=>D.nx σ H1
theorem BM (he:PE X e te) (hs:swapsWith e none pos.line X.env=pure false:=by rfl):PS X (.Expr e pos) (M0 te):=by
 intro pins s σ H D I h
 exact wpAny_Expr_any (Am (he pins s σ H _ I h) λv s1 ⟨x,H1,I1,r1,q1⟩=>⟨σ,H1,I1,q1⟩) I.quiet hs
def M3 (te:TE):TS:=λD σ H=>te σ H D.rt
theorem Ax (he:PE X e te):PS X (.Return (some e) pos) (M3 te):=by
 intro pins s σ H D I h
 exact wpAny_Return_some (Am (he pins s σ H _ I h) λv s1 ⟨x,H1,I1,r1,q1⟩=>⟨x,σ,H1,I1,r1,q1⟩)
def M4:TS:=λ_ _ _=>False
theorem EE:PS X st M4:=λ_ _ _ _ _ _ h=>h.elim
end
abbrev TG:=V->St->Hp->(St->Hp->Prop)->Prop
abbrev Dl:=List V->St->Hp->(St->Hp->Prop)->Prop
def PG (X:Cx) (target:Expr) (t:TG):Prop:=
 ∀(pins:List (Addr×Obj)) (s:Shared) (σ:St) (H:Hp) (v:V) (u:Value) (Q:St->Hp->Prop),Ac X pins σ H s->Av v u->t v σ H Q->
  wpAny (model X.prog X.w) X.A (assign target X.env u) (λ_ s'=>∃σ' H',Ac X pins σ' H' s'/\Q σ' H') X.xe s
def EF (X:Cx) (ts:List Expr) (t:Dl):Prop:=
 ∀(pins:List (Addr×Obj)) (s:Shared) (σ:St) (H:Hp) (vs:List V) (us:List Value) (Q:St->Hp->Prop),Ac X pins σ H s->Au vs us->t vs σ H Q->
  wpAny (model X.prog X.w) X.A (assignInOrder ((assignEach ts X.env).map (·.2)) us) (λ_ s'=>∃σ' H',Ac X pins σ' H' s'/\Q σ' H') X.xe s
abbrev Hr:=V->V->V->Hp->(Hp->Prop)->Prop
def Jk (X:Cx) (t:Hr):Prop:=
 ∀(pins:List (Addr×Obj)) (s:Shared) (σ:St) (H:Hp) (o i v:V) (ov iv u:Value) (Q:Hp->Prop),Ac X pins σ H s->Av o ov->Av i iv->Av v u->t o i v H Q->
  wpAny (model X.prog X.w) X.A (setItem ov iv u) (λ_ s'=>∃H',Ac X pins σ H' s'/\Q H') X.xe s
section
variable {X : Cx} {pos : Pos}
def Fm (i:Nat):TG:=λv σ H Q=>Q (σ.set i (some v)) H
theorem M5 {i:Nat}{x:Str} (hN:X.N.Nodup) (hi:X.N[i]? =some x) (hx:DJ X.env.scope x) (hf:X.fn x=true\/X.env.scope.names.lookup x=some .local :=by first | exact .inl rfl | exact .inr rfl | assumption):PG X (.Name x pos) (Fm i):=by
 intro pins s σ H v u Q I r h
 exact wpAny_assign_Name (Fl I hN hi hx r (λs' I'=>⟨_,H,I',h⟩) hf)
def M6:Dl:=λvs σ H Q=>vs=[]/\Q σ H
def M7 (t:TG) (u:Dl):Dl:=λvs σ H Q=>∃v r,vs=v::r/\t v σ H fun σ' H'=>u r σ' H' Q
theorem AA:EF X [] M6:=by
 intro pins s σ H vs us Q I r h
 obtain⟨e,h⟩:=h
 subst e
 cases r
 exact assignInOrder_nil ⟨σ,H,I,h⟩
theorem Ah {e:Expr}{es:List Expr}{t:TG}{u:Dl} (h1:PG X e t) (h2:EF X es u)
  (hs:(assignEach (e::es) X.env).map (·.2)=assign e X.env::(assignEach es X.env).map (·.2):=by rfl):EF X (e::es) (M7 t u):=by
 intro pins s σ H vs us Q I r h
 obtain⟨v,vr,e1,h⟩:=h
 subst e1
 cases r with
 | cons r rr=>
  rw [hs]
  refine assignInOrder_cons (Am (h1 pins s σ H _ _ _ I r h) λ_ s1 ⟨σ1,H1,I1,q1⟩=>?_)
  exact h2 pins s1 σ1 H1 _ _ Q I1 rr q1
def Jl (K:PySem.W.Frag) (n:Nat) (t:Dl):TG:=λv σ H Q=>∃a xs,v= .ref a/\Ae K H a xs/\xs.length=n/\t xs σ H Q
theorem M8 {es:List Expr}{k:Nat}{t:Dl}{n:Nat} (hc:X.calm=true) (h:EF X es t)
  (hn:(assignEach es X.env).length=n:=by rfl) (hst:(assignEach es X.env).findIdx? (·.1)=none:=by rfl):PG X (.Tuple es k pos) (Jl X.K n t):=by
 intro pins s σ H v u Q I r hw
 obtain⟨a,xs,e1,hq,hl,hw⟩:=hw
 subst e1
 cases r
 obtain⟨its,rv,ht,hz⟩:=I.tuple hq
 refine assign_Tuple_tuple (I.ok.hd hc) ht (by simp [hn,<-hl,rv.length]) hst λh' hx=>?_
 have I1:Ac X pins σ H { s with heap:=h'}:=I.kept (t':=s.toks) λb o e=>hx b o (Nat.ne_of_lt (Heap.lt_size e)) e
 exact h pins _ σ H xs _ Q I1 (by simpa using rv) hw
def M9 (to ti:TE) (t:Hr):TG:=λv σ H Q=>to σ H λo H1=>ti σ H1 λi H2=>t o i v H2 λH3=>Q σ H3
theorem Hs {o i:Expr}{to ti:TE}{t:Hr} (ho:PE X o to) (hi:PE X i ti) (hs:Jk X t)
  (ha : ∀ v, assign (.Subscript o i pos) X.env v = (do
   let ov<-holding [v] (eval o X.env)
   let iv<-holding [v,ov] (eval i X.env)
   standAt pos
   holding [v,ov,iv] (setItem ov iv v)
   release [v,ov,iv] []):=by intro _;rfl):PG X (.Subscript o i pos) (M9 to ti t):=by
 intro pins s σ H v u Q I r h
 rw [ha]
 refine wpAny_bind (wpAny_holding (Am (ho pins s σ H _ I h) λov s1 ⟨x,H1,I1,r1,q1⟩=>?_))
 refine wpAny_bind (wpAny_holding (Am (hi pins s1 σ H1 _ I1 q1) λiv s2 ⟨y,H2,I2,r2,q2⟩=>?_))
 refine wpAny_bind (wpAny_standAt (wpAny_bind (wpAny_holding (Am (hs pins s2 σ H2 x y v ov iv u _ I2 r1 r2 r q2) λ_ s3 ⟨H3,I3,q3⟩=>?_))))
 exact wpAny_release ⟨σ,H3,I3,q3⟩
def Jm (te:TE) (g:TG):TS:=λD σ H=>te σ H λx H1=>g x σ H1 D.nx
theorem A1 {tg e:Expr}{te:TE}{g:TG} (he:PE X e te) (hg:PG X tg g) (hs:swapsWithSole [tg] e pos.line X.env=pure false:=by rfl) (hw:swappedStores [tg] e X.env=pure none:=by rfl)
  (h1:(assignEach [tg] X.env).map (·.2)=[assign tg X.env]:=by rfl):PS X (.Assign [tg] e pos) (Jm te g):=by
 intro pins s σ H D I h
 refine wpAny_Assign_stores (Am (he pins s σ H _ I h) λv s1 ⟨x,H1,I1,r1,q1⟩=>?_) hs hw
 rw [h1]
 exact Am (hg pins s1 σ H1 x v _ I1 r1 q1) λ_ s2 q=>q
theorem AH {i:Nat}{x:Str}{e:Expr}{te:TE}{pos':Pos} (hN:X.N.Nodup) (hi:X.N[i]? =some x) (hx:DJ X.env.scope x) (he:PE X e te) (hs:swapsWith e (some (.Name x pos')) pos.line X.env=pure false:=by rfl) (hf:X.fn x=true\/X.env.scope.names.lookup x=some .local :=by first | exact .inl rfl | exact .inr rfl | assumption):
  PS X (.Assign [.Name x pos'] e pos) (Jm te (Fm i)):=by
 intro pins s σ H D I h
 refine wpAny_Assign_Name (Am (he pins s σ H _ I h) λv s1 ⟨y,H1,I1,r1,q1⟩=>?_) hs
 exact Fl I1 hN hi hx r1 (λs2 I2=>⟨_,H1,I2,q1⟩) hf
def Na (i j:Nat) (ta:TA):TS:=λD σ H=>ta σ H λvs H1=>∃v w,vs=[v,w]/\D.nx ((σ.set i (some v)).set j (some w)) H1
theorem Fo {i j:Nat}{x y:Str}{a b:Expr}{ta:TA}{px py pt:Pos}{kt k2 pt2} (hc:X.calm=true) (hN:X.N.Nodup) (hi:X.N[i]? =some x) (hj:X.N[j]? =some y) (hij:i≠j)
  (hx:X.env.scope.names.lookup x=some .local) (hy:X.env.scope.names.lookup y=some .local) (ha:PA X [a,b] ta)
  (hw:swappedStores [.Tuple [.Name x px,.Name y py] kt pt] (.Tuple [a,b] k2 pt2) X.env=pure (some [x,y]))
  (hs:swapsWithSole [.Tuple [.Name x px,.Name y py] kt pt] (.Tuple [a,b] k2 pt2) pos.line X.env=pure false:=by rfl):
  PS X (.Assign [.Tuple [.Name x px,.Name y py] kt pt] (.Tuple [a,b] k2 pt2) pos) (Na i j ta):=by
 intro pins s σ H D I h
 rw [exec_Assign_arm]
 refine wpAny_bind (wpAny_standAt ?_)
 rw [hs]
 refine wpAny_bind (wpAny_pure ?_)
 rw [if_neg (by decide)]
 refine wpAny_bind (Tuple_ (Am (ha _ pins s σ H _ I h) λus s1 ⟨vs,H1,I1,r1,q1⟩=>?_))
 obtain⟨v,w,e1,q1⟩:=q1
 subst e1
 obtain⟨u1,u2,rfl,rv,rw'⟩:∃u1 u2,us=[u1,u2]/\Av v u1/\Av w u2:=by
  cases r1 with
  | cons p q=>
   cases q with
   | cons p' q'=>
    cases q'
    exact⟨_,_,rfl,p,p'⟩
 refine wpAny_newObj_type ?_ (by show 2<=sizeLine;decide)
 have I2:Ac X pins σ H1 { s1 with heap:=s1.heap.push { cls:= .type "tuple",data:= .seq [u1,u2].toArray}}:=I1.kept (t':=s1.toks) λb o e=>Heap.get?_push_of_some _ e
 rw [hw]
 refine wpAny_bind (wpAny_pure ?_)
 show wpAny (model X.prog X.w) X.A (do rule "assign.swapped-stores";let items<-unpackItems (.ref s1.heap.objs.size) 2 none;assignInOrder [λv=>bindName X.env y v,λv=>bindName X.env x v] items.reverse;pure Flow.next) _ _ _
 refine wpAny_bind (wpAny_rule (wpAny_bind (unpackItems_tuple (items:= #[u1,u2]) (I.ok.hd hc) (IsTup.new s1.heap _) λh' hx'=>?_)))
 have I3:=I2.kept (h':=h') (t':=s1.toks) λb o e=>hx' b o (Nat.ne_of_lt (Heap.lt_size e)) e
 show wpAny _ _ (assignInOrder [λv=>bindName X.env y v,λv=>bindName X.env x v] [u2,u1] >>=λ_=>pure Flow.next) _ _ _
 refine wpAny_bind (assignInOrder_cons (wpAny_bindName (Fl I3 hN hj (.inl hy) rw' (λs2 I4=>?_) (.inr hy))))
 refine assignInOrder_cons (wpAny_bindName (Fl I4 hN hi (.inl hx) rv (λs3 I5=>assignInOrder_nil (wpAny_pure ?_)) (.inr hx)))
 rw [List.set_comm _ _ (Ne.symm hij)] at I5
 exact⟨_,H1,I5,q1⟩
end
section
variable {X : Cx} {pos : Pos}
end
structure It where
 go:Nat->Hp->Prop
 yld:Nat->Hp->V->Hp->Prop
 stop:Nat->Hp->Prop
def Ba (X:Cx) (pins:List (Addr×Obj)) (H:Hp) (b:Addr):Prop:=
 H b=none/\b≠X.env.locals/\b ∉ X.fs/\(b∈X.ex\/X.s₀.heap.objs.size<=b)/\(∀x c,X.env.cells.lookup x=some c->c≠b)/\∀p∈X.pn++pins,p.1≠b
theorem Ac.fpOk {X:Cx}{pins:List (Addr×Obj)}{σ:St}{H H':Hp}{s:Shared}{b:Addr} (I:Ac X pins σ H s) (hb:s.heap.objs.size<=b) (hn:H' b=none):Ba X pins H' b:=by
 refine⟨hn,Nat.ne_of_gt (Nat.lt_of_lt_of_le I.lt hb),I.nofs hb,.inr (Nat.le_trans I.sz hb),λx c e z=>?_,λp hp z=>?_⟩
 ·obtain⟨v,q⟩:=I.cell x c e
  exact absurd (Nat.lt_of_lt_of_le q.lt (by rw [z];exact hb)) (Nat.lt_irrefl _)
 ·exact absurd (Nat.lt_of_lt_of_le (Heap.lt_size (I.pin p hp).1) (by rw [z];exact hb)) (Nat.lt_irrefl _)
structure CG (P:Program) (w:World) (K:PySem.W.Frag) (tg:Expr) (J:It) (fp:List Addr) (it:Addr) (tn:Nat->Heap->Prop):Prop where
 mem:it∈fp
 obj:∀i h,tn i h->∀b∈fp,∃o,h.get? b=some o/\∀v,o.data≠ .cell v
 keep:∀i h h',tn i h->(∀b∈fp,∀o,h.get? b=some o->h'.get? b=some o)->tn i h'
 item:∀(X:Cx),X.prog=P->X.w=w->X.K=K->X.calm=true->∀(i:Nat) (pins:List (Addr×Obj)) (s:Shared) (σ:St) (H:Hp) (E:Value->Shared->Prop),Ac X pins σ H s->(∀b∈fp,Ba X pins H b)->tn i s.heap->J.go i H->
  wpAny (model P w) X.A (pyNext (.ref it)) (λr s1=>∃u,r=some u/\
   wpAny (model P w) X.A (letOwnedTupleGo tg (.ref it) u) (λ_ s2=>∃x H',Ac X pins σ H' s2/\Av x u/\J.yld i H x H'/\tn (i+1) s2.heap/\∀b∈fp,H' b=none) E s1) E s
 done:∀(X:Cx),X.prog=P->X.w=w->X.K=K->X.calm=true->∀(i:Nat) (pins:List (Addr×Obj)) (s:Shared) (σ:St) (H:Hp) (E:Value->Shared->Prop),Ac X pins σ H s->(∀b∈fp,Ba X pins H b)->tn i s.heap->J.stop i H->
  wpAny (model P w) X.A (pyNext (.ref it)) (λr s1=>r=none/\Ac X pins σ H s1) E s
 self:∀(A:Around) (i:Nat) (s:Shared) (Q:Value->Shared->Prop) (E:Value->Shared->Prop),tn i s.heap->Q (.ref it) s->wpAny (model P w) A (pyIter (.ref it)) Q E s
abbrev TI:=St->Hp->(It->Hp->Prop)->Prop
def Jn (X:Cx) (pins:List (Addr×Obj)) (σ:St) (tg:Expr) (R:It->Hp->Prop) (itv:Value) (s2:Shared):Prop:=
 ∃(it:Addr) (fp:List Addr) (tn:Nat->Heap->Prop) (J:It) (H':Hp),itv= .ref it/\Ac X pins σ H' s2/\CG X.prog X.w X.K tg J fp it tn/\tn 0 s2.heap/\(∀b∈fp,Ba X pins H' b)/\R J H'
def PI (X:Cx) (tg iter:Expr) (wi:TI):Prop:=
 ∀(pins:List (Addr×Obj)) (s:Shared) (σ:St) (H:Hp) (R:It->Hp->Prop),Ac X pins σ H s->wi σ H R->
  wpAny (model X.prog X.w) X.A (eval iter X.env) (λv s1=>wpAny (model X.prog X.w) X.A (pyIter v) (Jn X pins σ tg R) X.xe s1) X.xe s
theorem Fp {M:Model}{A:Around}{E:Value->Shared->Prop}{s:Shared}{tg:Expr}{it:Addr}{u:Value}{o:Obj}{n:String}{vs:Array Value}{Q:Unit->Shared->Prop} (ho:s.heap.get? it=some o) (hc:o.cls= .type n) (hd:o.data= .fields vs)
    (hn:["enumerate","zip","dict_itemiterator","dict_reverseitemiterator","odict_iterator","itertools.zip_longest","itertools.pairwise"].contains n=false) (hQ:Q () s):wpAny M A (letOwnedTupleGo tg (.ref it) u) Q E s:=by
  unfold letOwnedTupleGo
  cases tg<;>first
    | exact wpAny_pure hQ
    | (cases u<;>first
        | exact wpAny_pure hQ
        | (refine wpAny_bind (wpAny_load ho ?_)
           rw [hc,hd]
           show wpAny M A (if (["enumerate","zip","dict_itemiterator","dict_reverseitemiterator","odict_iterator","itertools.zip_longest","itertools.pairwise"].contains n && vs[0]? ==some (rawInt _))=true then _ else _) Q E s
           rw [if_neg (by intro h;rw [hn,Bool.false_and] at h;cases h)]
           exact wpAny_pure hQ))
def D7 (K:PySem.W.Frag) (a:Addr):It:=
 ⟨λi H=>∃xs x,An K H a xs/\xs[i]? =some x,λi H x H'=>H'=H/\∀xs,An K H a xs->xs[i]? =some x,λi H=>∃xs,An K H a xs/\xs.length<=i⟩
def DL (K:PySem.W.Frag) (a:Addr):It:=
 ⟨λi H=>∃xs x,Ae K H a xs/\xs[i]? =some x,λi H x H'=>H'=H/\∀xs,Ae K H a xs->xs[i]? =some x,λi H=>∃xs,Ae K H a xs/\xs.length<=i⟩
def CH (lo:Int) (n:Nat):It:=⟨λi _=>i<n,λi H x H'=>H'=H/\x= .int (lo+i),λi _=>n<=i⟩
theorem Nb {w:World}{K:PySem.W.Frag} (a it:Addr):CG P w K tg (D7 K a) [it] it (λi h=>h.IsListIter it a i) where
 mem:=by simp
 obj:=λi h st b hb=>by
  have e:b=it:=by simpa using hb
  subst e
  obtain⟨o,e,c,d⟩:=st
  exact⟨o,e,λv z=>by rw [d] at z;cases z⟩
 keep:=λi h h' st k=>st.at λo e=>k it (by simp) o e
 item:=by
  intro X hP hw hK hc i pins s σ H E I hf st hg
  subst hP hw hK
  obtain⟨xs,x,hq,hx⟩:=hg
  obtain⟨its,rv,p,hz⟩:=I.list hq
  obtain⟨u,hu,ru⟩:=rv.get hx
  obtain⟨f0,f1,f2,f3,f4,f5⟩:=hf it (by simp)
  refine wpAny_pyNext_list_item st p.isList (x:=u) (by simpa using hu) λh' st' sb=>?_
  have I1:Ac X pins σ H { s with heap:=h'}:=I.turned (t':=s.toks) (λb o hb e=>(sb.2 b hb).trans e) f0 f1 f3 f4 f5
  obtain⟨o,e,c,d⟩:=id st'
  exact⟨u,rfl,Fp (s:= { s with heap:=h'}) e c d (by decide) ⟨x,H,I1,ru,⟨rfl,λys hy=>by rw [I.list_inj hy hq];exact hx⟩,st',λb hb=>(hf b hb).1⟩⟩
 done:=by
  intro X hP hw hK hc i pins s σ H E I hf st hg
  subst hP hw hK
  obtain⟨xs,hq,hx⟩:=hg
  obtain⟨its,rv,p,hz⟩:=I.list hq
  obtain⟨f0,f1,f2,f3,f4,f5⟩:=hf it (by simp)
  have hl:=rv.length
  exact wpAny_pyNext_list_end (I.ok.hd hc) st p.isList (by simp;omega) λh' eb=>⟨rfl,I.turned (t':=s.toks) (λb o hb e=>eb b o hb e) f0 f1 f3 f4 f5⟩
 self:=λ_ _ _ _ _ st h=>wpAny_pyIter_listiter st h
theorem Nc {w:World}{K:PySem.W.Frag} (a it:Addr):CG P w K tg (DL K a) [it] it (λi h=>h.IsTupleIter it a i) where
 mem:=by simp
 obj:=λi h st b hb=>by
  have e:b=it:=by simpa using hb
  subst e
  obtain⟨o,e,c,d⟩:=st
  exact⟨o,e,λv z=>by rw [d] at z;cases z⟩
 keep:=λi h h' st k=>st.at λo e=>k it (by simp) o e
 item:=by
  intro X hP hw hK hc i pins s σ H E I hf st hg
  subst hP hw hK
  obtain⟨xs,x,hq,hx⟩:=hg
  obtain⟨its,rv,p,hz⟩:=I.tuple hq
  obtain⟨u,hu,ru⟩:=rv.get hx
  obtain⟨f0,f1,f2,f3,f4,f5⟩:=hf it (by simp)
  refine wpAny_pyNext_tuple_item st (show s.heap.IsTuple a its.toArray from p) (x:=u) (by simpa using hu) λh' st' sb=>?_
  have I1:Ac X pins σ H { s with heap:=h'}:=I.turned (t':=s.toks) (λb o hb e=>(sb.2 b hb).trans e) f0 f1 f3 f4 f5
  obtain⟨o,e,c,d⟩:=id st'
  exact⟨u,rfl,Fp (s:= { s with heap:=h'}) e c d (by decide) ⟨x,H,I1,ru,⟨rfl,λys hy=>by rw [I.tuple_inj hy hq];exact hx⟩,st',λb hb=>(hf b hb).1⟩⟩
 done:=by
  intro X hP hw hK hc i pins s σ H E I hf st hg
  subst hP hw hK
  obtain⟨xs,hq,hx⟩:=hg
  obtain⟨its,rv,p,hz⟩:=I.tuple hq
  obtain⟨f0,f1,f2,f3,f4,f5⟩:=hf it (by simp)
  have hl:=rv.length
  exact wpAny_pyNext_tuple_end (I.ok.hd hc) st (show s.heap.IsTuple a its.toArray from p) (by simp;omega) λh' eb=>⟨rfl,I.turned (t':=s.toks) (λb o hb e=>eb b o hb e) f0 f1 f3 f4 f5⟩
 self:=λ_ _ _ _ _ st h=>wpAny_pyIter_tupleiter st h
theorem Nd {w:World}{K:PySem.W.Frag} (it:Addr) (lo:Int) (n:Nat):CG P w K tg (CH lo n) [it] it (λi h=>IsRangeIter h it (lo+(i:Nat) * 1) ((n:Int)-(i:Nat)) 1) where
 mem:=by simp
 obj:=λi h st b hb=>by
  have e:b=it:=by simpa using hb
  subst e
  exact⟨_,st,λv z=>by
   have z':Data.fields _=Data.cell v:=z
   cases z'⟩
 keep:=λi h h' st k=>k it (by simp) _ st
 item:=by
  intro X hP hw hK hc i pins s σ H E I hf st hg
  subst hP hw hK
  obtain⟨f0,f1,f2,f3,f4,f5⟩:=hf it (by simp)
  have W:=Walks.range (prog:=X.prog) (w:=X.w) (I.ok.hd hc) it lo 1 n
  refine W.item i s _ _ hg st λv h' tk hv st' kk=>?_
  obtain⟨t,rfl⟩:=hv
  have I1:Ac X pins σ H { s with heap:=h',toks:=tk}:=I.turned (λb o hb e=>kk b o (by simpa using hb) e) f0 f1 f3 f4 f5
  refine⟨_,rfl,Fp (s:= { s with heap:=h',toks:=tk}) (n:="range_iterator") st' rfl rfl (by decide) ⟨.int (lo+i),H,I1,⟨t,?_⟩,⟨rfl,rfl⟩,st',λb hb=>(hf b hb).1⟩⟩
  rw [Int.mul_one]
 done:=by
  intro X hP hw hK hc i pins s σ H E I hf st hg
  subst hP hw hK
  obtain⟨f0,f1,f2,f3,f4,f5⟩:=hf it (by simp)
  exact wpAny_pyNext_range_end (I.ok.hd hc) st (by have:n<=i:=hg;omega) λh' eb=>⟨rfl,I.turned (t':=s.toks) (λb o hb e=>eb b o hb e) f0 f1 f3 f4 f5⟩
 self:=λ_ _ _ _ _ st h=>wpAny_pyIter_rangeiter st h
end L2
namespace L2
open PySem PySem.Spec PyProof.Rows
variable {tl : TE} {pins : List (Addr × Obj)} {σ : St} {H : Hp} {s : Shared} {a : Addr} {h : Heap} {xs : List V} {tb : TS} {D : CD}
section
variable {X : Cx} {tg : Expr}
def Jo (K:PySem.W.Frag) (tl:TE):TI:=fun σ H R=>tl σ H λx H1=>∃a,x= .ref a/\(∃xs,An K H1 a xs)/\R (D7 K a) H1
def Jp (K:PySem.W.Frag) (tl:TE):TI:=fun σ H R=>tl σ H λx H1=>∃a,x= .ref a/\(∃xs,Ae K H1 a xs)/\R (DL K a) H1
theorem Nf {l:Expr} (hl:PE X l tl):PI X tg l (Jo X.K tl):=by
 intro pins s σ H R I h
 refine Am (hl pins s σ H _ I h) λv s1 ⟨x,H1,I1,r1,q1⟩=>?_
 obtain⟨a,e,⟨xs,hq⟩,q⟩:=q1
 subst e
 cases r1
 obtain⟨its,rv,p,hz⟩:=I1.list hq
 refine wpAny_pyIter_list p.isList ?_
 refine⟨s1.heap.objs.size,[s1.heap.objs.size],_,_,H1,rfl,I1.kept (t':=s1.toks) λb o e=>Heap.get?_push_of_some _ e,Nb a _,⟨_,Heap.get?_push_size _ rfl,rfl,rfl⟩,λb hb=>?_,q⟩
 have e:b=s1.heap.objs.size:=by simpa using hb
 subst e
 exact I1.fpOk (Nat.le_refl _) (I1.hok.fresh (Nat.le_refl _))
theorem Ng {l:Expr} (hl:PE X l tl):PI X tg l (Jp X.K tl):=by
 intro pins s σ H R I h
 refine Am (hl pins s σ H _ I h) λv s1 ⟨x,H1,I1,r1,q1⟩=>?_
 obtain⟨a,e,⟨xs,hq⟩,q⟩:=q1
 subst e
 cases r1
 obtain⟨its,rv,p,hz⟩:=I1.tuple hq
 refine wpAny_pyIter_tuple (show s1.heap.IsTuple a its.toArray from p) ?_
 refine⟨s1.heap.objs.size,[s1.heap.objs.size],_,_,H1,rfl,I1.kept (t':=s1.toks) λb o e=>Heap.get?_push_of_some _ e,Nc a _,⟨_,Heap.get?_push_size _ rfl,rfl,rfl⟩,λb hb=>?_,q⟩
 have e:b=s1.heap.objs.size:=by simpa using hb
 subst e
 exact I1.fpOk (Nat.le_refl _) (I1.hok.fresh (Nat.le_refl _))
theorem Jq {R:It->Hp->Prop}{E:Value->Shared->Prop}{lo hi:Int}{t u v:Tok}{tk:Nat} (I:Ac X pins σ H s) (h1: -(2 ^ 62)<=lo) (h2:lo<2 ^ 62) (h3: -(2 ^ 62)<=hi) (h4:hi<2 ^ 62)
  (q:R (CH lo (hi-lo).toNat) H):wpAny (model X.prog X.w) X.A (pyIter (.ref s.heap.objs.size)) (Jn X pins σ tg R) E { s with heap:=s.heap.push { cls:= .type "range",data:= .fields #[.int lo t,.int hi u,.int 1 v]},toks:=tk}:=by
 refine wpAny_pyIter_range (IsRange.new ..) (small_one h1 h2 h3 h4) ?_
 have I1:Ac X pins σ H { s with heap:=s.heap.push { cls:= .type "range",data:= .fields #[.int lo t,.int hi u,.int 1 v]},toks:=tk}:=I.kept λb o e=>Heap.get?_push_of_some _ e
 refine⟨(s.heap.push { cls:= .type "range",data:= .fields #[.int lo t,.int hi u,.int 1 v]}).objs.size,[(s.heap.push { cls:= .type "range",data:= .fields #[.int lo t,.int hi u,.int 1 v]}).objs.size],_,_,H,rfl,
  I1.kept (t':=tk) λb o e=>Heap.get?_push_of_some _ e,Nd _ lo (hi-lo).toNat,?_,λb hb=>?_,q⟩
 ·have e1:lo+((0:Nat):Int) * 1=lo:=by simp
  have e2:(((hi-lo).toNat:Nat):Int)-((0:Nat):Int)=Builtin.Range.rangeSize lo hi 1:=by rw [rangeSize_one];split<;>omega
  show IsRangeIter _ _ (lo+((0:Nat):Int) * 1) ((((hi-lo).toNat:Nat):Int)-((0:Nat):Int)) 1
  rw [e1,e2]
  exact Heap.get?_push_size _ rfl
 ·have e:b=(s.heap.push { cls:= .type "range",data:= .fields #[.int lo t,.int hi u,.int 1 v]}).objs.size:=by simpa using hb
  subst e
  exact I1.fpOk (Nat.le_refl _) (I1.hok.fresh (Nat.le_refl _))
def Nh (ta:TA):TI:=fun σ H R=>ta σ H λvs H1=>∃j:Int,vs=[.int j]/\ -(2 ^ 62)<=j/\j<2 ^ 62/\R (CH 0 j.toNat) H1
def Ni (ta:TA):TI:=fun σ H R=>ta σ H λvs H1=>∃i j:Int,vs=[.int i,.int j]/\(-(2 ^ 62)<=i/\i<2 ^ 62/\ -(2 ^ 62)<=j/\j<2 ^ 62)/\R (CH i (j-i).toNat) H1
theorem Cq {a:Expr}{ta:TA}{p pos:Pos} (hg:Gl X "range") (hm:X.mg "range"=none) (ha:PA X [a] ta) (hs:starEach [a] X.env=[(false,eval a X.env)]:=by rfl):PI X tg (.Call (.Name "range" p) [a] [] pos) (Nh ta):=by
 intro pins s σ H R I h
 refine Call_ (B1 I hg hm boot_range (PyProof.Rows.callWith_type1 (Am (ha pos pins s σ H _ I h) λus s1 ⟨vs,H1,I1,r1,q1⟩=>?_) hs rfl))
 obtain⟨j,e,q1,q2,q⟩:=q1
 subst e
 cases r1 with
 | cons r rr=>
  cases rr
  obtain⟨t,rfl⟩:=r
  exact call_range_1 (Jq I1 (by omega) (by omega) q1 q2 (by simpa using q))
theorem Nj {a b:Expr}{ta:TA}{p pos:Pos} (hg:Gl X "range") (hm:X.mg "range"=none) (ha:PA X [a,b] ta) (hs:starEach [a,b] X.env=[(false,eval a X.env),(false,eval b X.env)]:=by rfl) (hs2:starEach [b] X.env=[(false,eval b X.env)]:=by rfl):
  PI X tg (.Call (.Name "range" p) [a,b] [] pos) (Ni ta):=by
 intro pins s σ H R I h
 refine Call_ (B1 I hg hm boot_range (PyProof.Rows.callWith_type1 (Am (ha pos pins s σ H _ I h) λus s1 ⟨vs,H1,I1,r1,q1⟩=>?_) (by rw [hs,hs2]) (by rw [hs2];rfl)))
 obtain⟨i,j,e,⟨q1,q2,q3,q4⟩,q⟩:=q1
 subst e
 cases r1 with
 | cons r rr=>
  cases rr with
  | cons r' rr=>
   cases rr
   obtain⟨t,rfl⟩:=r
   obtain⟨t',rfl⟩:=r'
   exact call_range_2 (Jq I1 q1 q2 q3 q4 q)
def Nk (wi:TI) (g:TG) (tb:TS):TS:=λD σ H=>wi σ H λJ H1=>∃W:Nat->Nat->St->Hp->Prop,(∃m,W 0 m σ H1)/\∀i m σ H,W i m σ H->
 (J.stop i H/\D.nx σ H)\/(J.go i H/\∃N:St->Hp->Prop,(∀σ' H',N σ' H'->∃m',m'<m/\W (i+1) m' σ' H')/\∀x H',J.yld i H x H'->g x σ H' fun σ2 H2=>tb { D with nx:=N,ct:=N,bk:=D.nx} σ2 H2)
def Cr (fp:List Addr) (h:Heap):List (Addr×Obj):=fp.filterMap λb=>(h.get? b).map λo=>(b,o)
theorem D8 {fp:List Addr}{b:Addr}{o:Obj} (hb:b∈fp) (e:h.get? b=some o):(b,o)∈Cr fp h:=List.mem_filterMap.mpr ⟨b,hb,by rw [e];rfl⟩
theorem Ht {fp:List Addr}{p:Addr×Obj} (hp:p∈Cr fp h):p.1∈fp/\h.get? p.1=some p.2:=by
 obtain⟨b,hb,e⟩:=List.mem_filterMap.mp hp
 cases q:h.get? b with
 | none=>rw [q] at e;cases e
 | some o=>
  rw [q] at e
  have e':(b,o)=p:=Option.some.inj e
  subst e'
  exact⟨hb,q⟩
theorem Ac.pinned {fp:List Addr} (I:Ac X pins σ H s) (hf:∀b∈fp,Ba X pins H b) (ho:∀b∈fp,∃o,s.heap.get? b=some o/\∀v,o.data≠ .cell v):Ac X (pins++Cr fp s.heap) σ H s:=
 I.pins_of λp hp=>(List.mem_append.mp hp).elim (λz=>I.pin p (List.mem_append_right _ z)) λz=>by
  obtain⟨hb,e⟩:=Ht z
  obtain⟨f0,f1,f2,_⟩:=hf p.1 hb
  obtain⟨o,e',d⟩:=ho p.1 hb
  rw [e] at e';cases e'
  exact⟨e,f0,f1,f2,d⟩
theorem Ac.unpinned {pl:List (Addr×Obj)} (I:Ac X (pins++pl) σ H s):Ac X pins σ H s:=I.pins_of λp hp=>I.pin p (List.mem_append_right _ (List.mem_append_left _ hp))
theorem Bp {iter:Expr}{body:List Stmt}{wi:TI}{g:TG}{tb:TS}{pos:Pos} (hp:PassesOwn (model X.prog X.w) X.A X.env X.xe) (hc:X.calm=true) (hi:PI X tg iter wi) (hg:PG X tg g) (hb:PSs X body tb)
  (hs:∀x,foldedSetIterable iter X.env x=pure x:=by intro _;rfl):PS X (.For tg iter body [] pos) (Nk wi g tb):=by
 intro pins s σ H D I h
 refine wpAny_For (Am (hi pins s σ H _ I h) λv s1 h1=>Am h1 λitv s2 h2=>?_) hs
 obtain⟨it,fp,tn,J,H2,e,I2,T,st2,f2,W,⟨m0,w0⟩,turn⟩:=h2
 subst e
 --what stays true of the iterator's objects through the loop
 have stat:∀ {H':Hp},(∀b∈fp,H' b=none)->∀b∈fp,Ba X pins H' b:=λhn b hb=>⟨hn b hb,(f2 b hb).2⟩
 refine codeAny_forLoop_any (λn s'=>∃i σ' H',Ac X pins σ' H' s'/\tn i s'.heap/\(∀b∈fp,H' b=none)/\W i n σ' H') ?_ m0 ⟨0,σ,H2,I2,st2,λb hb=>(f2 b hb).1,w0⟩
 rintro n s3 ⟨i,σ3,H3,I3,st3,fr3,w3⟩
 rcases turn i n σ3 H3 w3 with⟨stop,qn⟩ | ⟨go,N,hN,step⟩
 ·refine wpAny_passesOwn hp (Am (T.done X rfl rfl rfl hc i pins s3 σ3 H3 X.xe I3 (stat fr3) st3 stop) λr s4 ⟨hr,I4⟩=>?_)
  subst hr
  exact wpAny_execs_nil ⟨σ3,H3,I4,qn⟩
 ·refine wpAny_passesOwn hp (Am (T.item X rfl rfl rfl hc i pins s3 σ3 H3 X.xe I3 (stat fr3) st3 go) λr s4 ⟨u,hr,h4⟩=>?_)
  subst hr
  refine wpAny_passesOwn hp (Am h4 λ_ s5 ⟨x,H5,I5,r5,y5,st5,fr5⟩=>?_)
  have I5':=I5.pinned (stat fr5) (T.obj _ _ st5)
  refine wpAny_passesOwn hp (Am (hg _ s5 σ3 H5 x u _ I5' r5 (step x H5 y5)) λ_ s6 ⟨σ6,H6,I6,q6⟩=>?_)
  refine wpAny_passesOwn hp (Am (hb _ s6 σ6 H6 _ I6 q6) λf s7 q7=>?_)
  have again:∀ {σ7:St}{H7:Hp},Ac X (pins++Cr fp s5.heap) σ7 H7 s7->N σ7 H7->∃m,m<n/\∃i σ' H',Ac X pins σ' H' s7/\tn i s7.heap/\(∀b∈fp,H' b=none)/\W i m σ' H':=λ{σ7 H7} I7 n7=>by
   obtain⟨m',hm,w7⟩:=hN σ7 H7 n7
   refine⟨m',hm,i+1,σ7,H7,I7.unpinned,T.keep _ _ _ st5 λb hb o e=>(I7.pin (b,o) (List.mem_append_right _ (List.mem_append_right _ (D8 hb e)))).1,λb hb=>?_,w7⟩
   obtain⟨o,e,d⟩:=T.obj _ _ st5 b hb
   exact(I7.pin (b,o) (List.mem_append_right _ (List.mem_append_right _ (D8 hb e)))).2.1
  cases f with
  | next=>obtain⟨σ7,H7,I7,n7⟩:=q7;exact again I7 n7
  | cont=>obtain⟨σ7,H7,I7,n7⟩:=q7;exact again I7 n7
  | brk=>obtain⟨σ7,H7,I7,q7⟩:=q7;exact⟨σ7,H7,I7.unpinned,q7⟩
  | ret v=>obtain⟨x7,σ7,H7,I7,r7,q7⟩:=q7;exact⟨x7,σ7,H7,I7.unpinned,r7,q7⟩
end
theorem Hu {K:PySem.W.Frag}{g:TG} (Pv:Nat->St->Hp->Prop) (h0:Pv 0 σ H) (hl:∀i σ H,i<=xs.length->Pv i σ H->An K H a xs)
  (hs:∀i x σ H,xs[i]? =some x->Pv i σ H->g x σ H fun σ2 H2=>tb { D with nx:=Pv (i+1),ct:=Pv (i+1),bk:=D.nx} σ2 H2) (hd:∀σ H,Pv xs.length σ H->D.nx σ H):
  ∃W:Nat->Nat->St->Hp->Prop,(∃m,W 0 m σ H)/\∀i m σ H,W i m σ H->
   ((D7 K a).stop i H/\D.nx σ H)\/((D7 K a).go i H/\∃N:St->Hp->Prop,(∀σ' H',N σ' H'->∃m',m'<m/\W (i+1) m' σ' H')/\∀x H',(D7 K a).yld i H x H'->g x σ H' fun σ2 H2=>tb { D with nx:=N,ct:=N,bk:=D.nx} σ2 H2):=by
 refine⟨λi m σ H=>m=xs.length-i/\i<=xs.length/\Pv i σ H,⟨xs.length,by simp,Nat.zero_le _,h0⟩,?_⟩
 rintro i m σ H ⟨rfl,hi,p⟩
 have q:=hl i σ H hi p
 by_cases hlt:i<xs.length
 ·refine .inr ⟨⟨xs,xs[i],q,by simp [hlt]⟩,Pv (i+1),fun σ' H' p'=>⟨xs.length-(i+1),by omega,rfl,hlt,p'⟩,λx H' y=>?_⟩
  obtain⟨e,y⟩:=y
  subst e
  exact hs i x σ _ (y xs q) p
 ·have e:i=xs.length:=by omega
  subst e
  exact .inl ⟨⟨xs,q,Nat.le_refl _⟩,hd σ H p⟩
theorem Nl {K:PySem.W.Frag}{g:TG} (Pv:Nat->St->Hp->Prop) (h0:Pv 0 σ H) (hl:∀i σ H,i<=xs.length->Pv i σ H->Ae K H a xs)
  (hs:∀i x σ H,xs[i]? =some x->Pv i σ H->g x σ H fun σ2 H2=>tb { D with nx:=Pv (i+1),ct:=Pv (i+1),bk:=D.nx} σ2 H2) (hd:∀σ H,Pv xs.length σ H->D.nx σ H):
  ∃W:Nat->Nat->St->Hp->Prop,(∃m,W 0 m σ H)/\∀i m σ H,W i m σ H->
   ((DL K a).stop i H/\D.nx σ H)\/((DL K a).go i H/\∃N:St->Hp->Prop,(∀σ' H',N σ' H'->∃m',m'<m/\W (i+1) m' σ' H')/\∀x H',(DL K a).yld i H x H'->g x σ H' fun σ2 H2=>tb { D with nx:=N,ct:=N,bk:=D.nx} σ2 H2):=by
 refine⟨λi m σ H=>m=xs.length-i/\i<=xs.length/\Pv i σ H,⟨xs.length,by simp,Nat.zero_le _,h0⟩,?_⟩
 rintro i m σ H ⟨rfl,hi,p⟩
 have q:=hl i σ H hi p
 by_cases hlt:i<xs.length
 ·refine .inr ⟨⟨xs,xs[i],q,by simp [hlt]⟩,Pv (i+1),fun σ' H' p'=>⟨xs.length-(i+1),by omega,rfl,hlt,p'⟩,λx H' y=>?_⟩
  obtain⟨e,y⟩:=y
  subst e
  exact hs i x σ _ (y xs q) p
 ·have e:i=xs.length:=by omega
  subst e
  exact .inl ⟨⟨xs,q,Nat.le_refl _⟩,hd σ H p⟩
theorem Dm {lo:Int}{n:Nat}{g:TG} (Pv:Nat->St->Hp->Prop) (h0:Pv 0 σ H)
  (hs:∀i σ H,i<n->Pv i σ H->g (.int (lo+i)) σ H fun σ2 H2=>tb { D with nx:=Pv (i+1),ct:=Pv (i+1),bk:=D.nx} σ2 H2) (hd:∀σ H,Pv n σ H->D.nx σ H):
  ∃W:Nat->Nat->St->Hp->Prop,(∃m,W 0 m σ H)/\∀i m σ H,W i m σ H->
   ((CH lo n).stop i H/\D.nx σ H)\/((CH lo n).go i H/\∃N:St->Hp->Prop,(∀σ' H',N σ' H'->∃m',m'<m/\W (i+1) m' σ' H')/\∀x H',(CH lo n).yld i H x H'->g x σ H' fun σ2 H2=>tb { D with nx:=N,ct:=N,bk:=D.nx} σ2 H2):=by
 refine⟨λi m σ H=>m=n-i/\i<=n/\Pv i σ H,⟨n,by simp,Nat.zero_le _,h0⟩,?_⟩
 rintro i m σ H ⟨rfl,hi,p⟩
 by_cases hlt:i<n
 ·refine .inr ⟨hlt,Pv (i+1),fun σ' H' p'=>⟨n-(i+1),by omega,rfl,hlt,p'⟩,λx H' y=>?_⟩
  obtain⟨e,y⟩:=y
  subst e y
  exact hs i σ _ hlt p
 ·have e:i=n:=by omega
  subst e
  exact .inl ⟨Nat.le_refl _,hd σ H p⟩
end L2
namespace L2
open PySem PySem.Spec PyProof.Rows
variable {i j : Int} {us : List Value}
abbrev R2:=V->V->Hp->VK->Prop
def OpR (X:Cx) (f:Value->Value->Sem Value) (r:R2):Prop:=
 ∀(pins:List (Addr×Obj)) (s:Shared) (σ:St) (H:Hp) (x y:V) (v u:Value) (Q:VK),Ac X pins σ H s->Av x v->Av y u->r x y H Q->
  wpAny (model X.prog X.w) X.A (f v u) (EP X pins σ Q) X.xe s
def Hv (X:Cx) (f:Value->Sem Value) (r:V->Hp->VK->Prop):Prop:=
 ∀(pins:List (Addr×Obj)) (s:Shared) (σ:St) (H:Hp) (x:V) (v:Value) (Q:VK),Ac X pins σ H s->Av x v->r x H Q->
  wpAny (model X.prog X.w) X.A (f v) (EP X pins σ Q) X.xe s
def Be (X:Cx) (f:Value) (r:List V->Hp->VK->Prop):Prop:=
 ∀(pins:List (Addr×Obj)) (s:Shared) (σ:St) (H:Hp) (xs:List V) (us:List Value) (Q:VK),Ac X pins σ H s->Au xs us->r xs H Q->
  wpAny (model X.prog X.w) X.A (call f us) (EP X pins σ Q) X.xe s
def Fq (r:R2) (ta tb:TE):TE:=fun σ H Q=>ta σ H λx H1=>tb σ H1 λy H2=>r x y H2 Q
def Nm (r:V->Hp->VK->Prop) (ta:TE):TE:=fun σ H Q=>ta σ H λx H1=>r x H1 Q
def rI (C:Int->Int->Prop) (g:Int->Int->V):R2:=λx y H Q=>∃i j,x= .int i/\y= .int j/\C i j/\Q (g i j) H
def CI (g:Int->Int->V):R2:=λx y H Q=>∃i j,x= .int i/\y= .int j/\Q (g i j) H
def rU (g:Int->V):V->Hp->VK->Prop:=λx H Q=>∃i,x= .int i/\Q (g i) H
section
variable {X : Cx} {a b c : Expr} {ta tb tc : TE} {pos : Pos}
theorem Hw (ha:PE X a ta) (hb:PE X b tb) {pins:List (Addr×Obj)}{s:Shared}{σ:St}{H:Hp}{R:V->V->Hp->Prop} (I:Ac X pins σ H s)
  (h:ta σ H λx H1=>tb σ H1 λy H2=>R x y H2) {Q:Value->Shared->Prop}{f:Value->Value->Sem Value}
  (hf:∀v u s2 x y H2,Ac X pins σ H2 s2->Av x v->Av y u->R x y H2->wpAny (model X.prog X.w) X.A (f v u) Q X.xe s2):
  wpAny (model X.prog X.w) X.A (eval a X.env) (λv s₁=>wpAny (model X.prog X.w) X.A (eval b X.env) (λu s₂=>wpAny (model X.prog X.w) X.A (f v u) Q X.xe s₂) X.xe s₁) X.xe s:=by
 refine Am (ha pins s σ H _ I h) λv s1 ⟨x,H1,I1,r1,q1⟩=>?_
 refine Am (hb pins s1 σ H1 _ I1 q1) λu s2 ⟨y,H2,I2,r2,q2⟩=>?_
 exact hf v u s2 x y H2 I2 r1 r2 q2
theorem As {op:Operator}{r:R2} (ho:OpR X (binaryOp op) r) (ha:PE X a ta) (hb:PE X b tb):PE X (.BinOp a op b pos) (Fq r ta tb):=by
 intro pins s σ H Q I h
 exact wpAny_BinOp (Hw ha hb I h λv u s2 x y H2 I2 rx ry q=>ho pins s2 σ H2 x y v u Q I2 rx ry q)
theorem Nn {op:UnaryOp}{r:V->Hp->VK->Prop} (ho:Hv X (unaryOp op) r) (ha:PE X a ta):PE X (.UnaryOp op a pos) (Nm r ta):=by
 intro pins s σ H Q I h
 exact UnaryOp_ (Am (ha pins s σ H _ I h) λv s1 ⟨x,H1,I1,r1,q1⟩=>ho pins s1 σ H1 x v Q I1 r1 q1)
theorem Fs {f:Value->Value->Sem Value}{C:Int->Int->Prop}{g:Int->Int->Int}
  (rule:∀(i j:Int) (t u:Tok) (s:Shared) (Q:Value->Shared->Prop) (E:Value->Shared->Prop),C i j->Q (.int (g i j) s.toks) { s with toks:=s.toks+1}->wpAny (model X.prog X.w) X.A (f (.int i t) (.int j u)) Q E s):
  OpR X f (rI C λi j=> .int (g i j)):=by
 intro pins s σ H x y v u Q I rx ry h
 obtain⟨i,j,rfl,rfl,hc,q⟩:=h
 obtain⟨t,rfl⟩:=rx
 obtain⟨t',rfl⟩:=ry
 exact rule i j t t' s _ _ hc ⟨.int (g i j),H,I.tok _,⟨_,rfl⟩,q⟩
theorem Jr {f:Value->Value->Sem Value}{g:Int->Int->Int}
  (rule:∀(i j:Int) (t u:Tok) (s:Shared) (Q:Value->Shared->Prop) (E:Value->Shared->Prop),Q (.int (g i j) s.toks) { s with toks:=s.toks+1}->wpAny (model X.prog X.w) X.A (f (.int i t) (.int j u)) Q E s):
  OpR X f (CI λi j=> .int (g i j)):=by
 intro pins s σ H x y v u Q I rx ry h
 obtain⟨i,j,rfl,rfl,q⟩:=h
 obtain⟨t,rfl⟩:=rx
 obtain⟨t',rfl⟩:=ry
 exact rule i j t t' s _ _ ⟨.int (g i j),H,I.tok _,⟨_,rfl⟩,q⟩
theorem Ft {f:Value->Value->Sem Value}{g:Int->Int->Bool}
  (rule:∀(i j:Int) (t u:Tok) (s:Shared) (Q:Value->Shared->Prop) (E:Value->Shared->Prop),Q (.bool (g i j)) s->wpAny (model X.prog X.w) X.A (f (.int i t) (.int j u)) Q E s):
  OpR X f (CI λi j=> .bl (g i j)):=by
 intro pins s σ H x y v u Q I rx ry h
 obtain⟨i,j,rfl,rfl,q⟩:=h
 obtain⟨t,rfl⟩:=rx
 obtain⟨t',rfl⟩:=ry
 exact rule i j t t' s _ _ ⟨.bl (g i j),H,I,rfl,q⟩
def Hx (i j:Int):Prop:=0<j/\j<1073741824
def Js (i j:Int):Prop:=0<=j/\j<=1000000/\i.natAbs<2 ^ 64
def CMul (i j:Int):Prop:=(-(2 ^ 64)<i/\i<2 ^ 64)\/(-(2 ^ 64)<j/\j<2 ^ 64)
theorem CMul.ok (h:CMul i j):IntMulOk i j:=by
 rcases h with⟨h1,h2⟩ | ⟨h1,h2⟩
 ·exact .of_left (intBits_le_64 h1 h2)
 ·exact .of_right (intBits_le_64 h1 h2)
theorem op_add:OpR X (binaryOp .Add) (CI λi j=> .int (i+j)):=Jr λ_ _ _ _ _ _ _ q=>add_int q
theorem op_sub:OpR X (binaryOp .Sub) (CI λi j=> .int (i-j)):=Jr λ_ _ _ _ _ _ _ q=>sub_int q
theorem op_mul:OpR X (binaryOp .Mult) (rI CMul λi j=> .int (i * j)):=Fs λ_ _ _ _ _ _ _ hc q=>mul_int q hc.ok
theorem op_fdiv:OpR X (binaryOp .FloorDiv) (rI Hx λi j=> .int (i / j)):=Fs λi j _ _ _ _ _ hc q=>by
 have h1:(0:Int)<j:=hc.1
 have h2:j<1073741824:=hc.2
 exact floordiv_int (by omega) (by rw [Int.fdiv_eq_ediv_of_nonneg i (by omega)];exact q) (.inl (PyProof.noPylong_small (by omega)))
theorem op_mod:OpR X (binaryOp .Mod) (rI (λ_ j=>0<j) λi j=> .int (i % j)):=Fs λi j _ _ _ _ _ hc q=>by
 have h1:(0:Int)<j:=hc
 exact mod_int' (by omega) (by rw [Int.fmod_eq_emod_of_nonneg i (by omega)];exact q)
theorem op_pow:OpR X (binaryOp .Pow) (rI Js λi j=> .int (i ^ j.toNat)):=Fs λ_ _ _ _ _ _ _ hc q=>pow_int_small hc.1 hc.2.1 hc.2.2 q
theorem No {f:Value->Sem Value}{g:Int->Int}
  (rule:∀(i:Int) (t:Tok) (s:Shared) (Q:Value->Shared->Prop) (E:Value->Shared->Prop),Q (.int (g i) s.toks) { s with toks:=s.toks+1}->wpAny (model X.prog X.w) X.A (f (.int i t)) Q E s):
  Hv X f (rU λi=> .int (g i)):=by
 intro pins s σ H x v Q I rx h
 obtain⟨i,rfl,q⟩:=h
 obtain⟨t,rfl⟩:=rx
 exact rule i t s _ _ ⟨.int (g i),H,I.tok _,⟨_,rfl⟩,q⟩
theorem Np:Hv X (unaryOp .USub) (rU λi=> .int (-i)):=No λ_ _ _ _ _ q=>neg_int q
end
def Jt:V->V->Bool
 | .non,.non=>true | .non,.int _=>true | .int _,.non=>true | .non,.bl _=>true | .bl _,.non=>true | .non,.str _=>true | .str _,.non=>true
 | .int _,.int _=>true | .bl _,.bl _=>true | .str _,.str _=>true | .byt _,.byt _=>true
 | .int _,.str _=>true | .str _,.int _=>true | .bl _,.str _=>true | .str _,.bl _=>true
 | _,_=>false
def Nq:R2:=λx y H Q=>Jt x y=true/\Q (.bl (decide (x=y))) H
def Nr:R2:=λx y H Q=>Jt x y=true/\Q (.bl (!decide (x=y))) H
theorem Ca:decide (V.int i=V.int j)=(i==j):=by
 rw [Bool.eq_iff_iff]
 simp
theorem Ju {i j:Bool}:decide (V.bl i=V.bl j)=(i==j):=by
 rw [Bool.eq_iff_iff]
 simp
theorem Jv {i j:Str}:decide (V.str i=V.str j)=(i==j):=by
 rw [Bool.eq_iff_iff]
 simp
theorem Jw {i j:Array UInt8}:decide (V.byt i=V.byt j)=(i.toList==j.toList):=by
 rw [Bool.eq_iff_iff]
 cases i
 cases j
 simp
section
variable {X : Cx} {a b c : Expr} {ta tb tc : TE} {pos : Pos}
theorem AU {pins:List (Addr×Obj)}{σ:St}{H:Hp}{s:Shared}{Q:VK}{k k':Bool} (I:Ac X pins σ H s) (q:Q (.bl k) H) (e:k=k'):EP X pins σ Q (.bool k') s:=by
 subst e
 exact⟨.bl k,H,I,rfl,q⟩
theorem DM:OpR X (compareOp .Eq) Nq:=by
 intro pins s σ H x y v u Q I rx ry h
 obtain⟨hs,q⟩:=h
 cases x with
 | non=>
  cases rx
  cases y with
  | non=>cases ry;exact PySem.EqNone.eq_none_none (AU I q (by simp))
  | bl j=>cases ry;exact PySem.EqNone.eq_none_bool (AU I q (by simp))
  | int j=>obtain⟨t',rfl⟩:=ry;exact PySem.EqNone.eq_none_int (AU I q (by simp))
  | str j=>obtain⟨t',rfl⟩:=ry;exact PySem.EqNone.eq_none_str (AU I q (by simp))
  | _=>exact absurd (show false=true from hs) Bool.false_ne_true
 | bl i=>
  cases rx
  cases y with
  | non=>cases ry;exact PySem.EqNone.eq_bool_none (AU I q (by simp))
  | bl j=>cases ry;exact eq_bool (AU I q Ju)
  | str j=>obtain⟨t',rfl⟩:=ry;exact PySem.EqMixed.eq_bool_str (AU I q (by simp))
  | _=>exact absurd (show false=true from hs) Bool.false_ne_true
 | int i=>
  obtain⟨t,rfl⟩:=rx
  cases y with
  | non=>cases ry;exact PySem.EqNone.eq_int_none (AU I q (by simp))
  | int j=>obtain⟨t',rfl⟩:=ry;exact eq_int (AU I q Ca)
  | str j=>obtain⟨t',rfl⟩:=ry;exact PySem.EqMixed.eq_int_str (AU I q (by simp))
  | _=>exact absurd (show false=true from hs) Bool.false_ne_true
 | str i=>
  obtain⟨t,rfl⟩:=rx
  cases y with
  | non=>cases ry;exact PySem.EqNone.eq_str_none (AU I q (by simp))
  | bl j=>cases ry;exact PySem.EqMixed.eq_str_bool (AU I q (by simp))
  | int j=>obtain⟨t',rfl⟩:=ry;exact PySem.EqMixed.eq_str_int (AU I q (by simp))
  | str j=>obtain⟨t',rfl⟩:=ry;exact eq_str (AU I q Jv)
  | _=>exact absurd (show false=true from hs) Bool.false_ne_true
 | byt i=>
  obtain⟨t,rfl⟩:=rx
  cases y with
  | byt j=>obtain⟨t',rfl⟩:=ry;exact PySem.W.eq_bytes (AU I q Jw)
  | _=>exact absurd (show false=true from hs) Bool.false_ne_true
 | _=>cases y<;>exact absurd (show false=true from hs) Bool.false_ne_true
theorem Hy:OpR X (compareOp .NotEq) Nr:=by
 intro pins s σ H x y v u Q I rx ry h
 obtain⟨hs,q⟩:=h
 cases x with
 | non=>
  cases rx
  cases y with
  | non=>cases ry;exact PySem.EqNone.ne_none_none (AU I q (by simp))
  | bl j=>cases ry;exact PySem.EqNone.ne_none_bool (AU I q (by simp))
  | int j=>obtain⟨t',rfl⟩:=ry;exact PySem.EqNone.ne_none_int (AU I q (by simp))
  | str j=>obtain⟨t',rfl⟩:=ry;exact PySem.EqNone.ne_none_str (AU I q (by simp))
  | _=>exact absurd (show false=true from hs) Bool.false_ne_true
 | bl i=>
  cases rx
  cases y with
  | non=>cases ry;exact PySem.EqNone.ne_bool_none (AU I q (by simp))
  | bl j=>cases ry;exact ne_bool (AU I q (congrArg not Ju))
  | str j=>obtain⟨t',rfl⟩:=ry;exact PySem.EqMixed.ne_bool_str (AU I q (by simp))
  | _=>exact absurd (show false=true from hs) Bool.false_ne_true
 | int i=>
  obtain⟨t,rfl⟩:=rx
  cases y with
  | non=>cases ry;exact PySem.EqNone.ne_int_none (AU I q (by simp))
  | int j=>obtain⟨t',rfl⟩:=ry;exact ne_int (AU I q (congrArg not Ca))
  | str j=>obtain⟨t',rfl⟩:=ry;exact PySem.EqMixed.ne_int_str (AU I q (by simp))
  | _=>exact absurd (show false=true from hs) Bool.false_ne_true
 | str i=>
  obtain⟨t,rfl⟩:=rx
  cases y with
  | non=>cases ry;exact PySem.EqNone.ne_str_none (AU I q (by simp))
  | bl j=>cases ry;exact PySem.EqMixed.ne_str_bool (AU I q (by simp))
  | int j=>obtain⟨t',rfl⟩:=ry;exact PySem.EqMixed.ne_str_int (AU I q (by simp))
  | str j=>obtain⟨t',rfl⟩:=ry;exact ne_str (AU I q (congrArg not Jv))
  | _=>exact absurd (show false=true from hs) Bool.false_ne_true
 | byt i=>
  obtain⟨t,rfl⟩:=rx
  cases y with
  | byt j=>obtain⟨t',rfl⟩:=ry;exact PySem.W.ne_bytes (AU I q (congrArg not Jw))
  | _=>exact absurd (show false=true from hs) Bool.false_ne_true
 | _=>cases y<;>exact absurd (show false=true from hs) Bool.false_ne_true
theorem op_lt:OpR X (compareOp .Lt) (CI λi j=> .bl (decide (i<j))):=Ft λ_ _ _ _ _ _ _ q=>lt_int q
theorem op_le:OpR X (compareOp .LtE) (CI λi j=> .bl (decide (i<=j))):=Ft λ_ _ _ _ _ _ _ q=>le_int q
theorem op_gt:OpR X (compareOp .Gt) (CI λi j=> .bl (decide (j<i))):=Ft λ_ _ _ _ _ _ _ q=>gt_int q
theorem op_ge:OpR X (compareOp .GtE) (CI λi j=> .bl (decide (j<=i))):=Ft λ_ _ _ _ _ _ _ q=>ge_int q
theorem Nt:OpR X (compareOp .Is) (λx y H Q=>y= .non/\Q (.bl (decide (x= .non))) H):=by
  intro pins s σ H x y v u Q I rx ry h
  obtain⟨rfl,q⟩:=h
  cases ry
  refine is_none_gen (AU I q ?_)
  cases x<;>first
    | (cases rx;rfl)
    | (obtain⟨t,rfl⟩:=rx;rfl)
theorem Nu:OpR X (compareOp .IsNot) (λx y H Q=>y= .non/\Q (.bl (!decide (x= .non))) H):=by
  intro pins s σ H x y v u Q I rx ry h
  obtain⟨rfl,q⟩:=h
  cases ry
  refine isnot_none_gen (AU I q ?_)
  cases x<;>first
    | (cases rx;rfl)
    | (obtain⟨t,rfl⟩:=rx;rfl)
theorem A3 (b:Expr) {op:CmpOp} (h:op≠ .In:=by decide) (h2:op≠ .NotIn:=by decide):behindInMarks op b=false:=by
 have e1:(op==CmpOp.In)=false:=by cases op<;>first | rfl | exact absurd rfl h
 have e2:(op==CmpOp.NotIn)=false:=by cases op<;>first | rfl | exact absurd rfl h2
 cases b<;>simp [behindInMarks,e1,e2]
theorem D9 {op:CmpOp}{r:R2} (ho:OpR X (compareOp op) r) (ha:PE X a ta) (hb:PE X b tb) (hm:behindInMarks op b=false):PE X (.Compare a [op] [b] pos) (Fq r ta tb):=by
 intro pins s σ H Q I h
 exact wpAny_Compare1 (Hw ha hb I h λv u s2 x y H2 I2 rx ry q=>ho pins s2 σ H2 x y v u Q I2 rx ry q) hm
theorem Nv {xs:List V}{its:List Value} (r:Au xs its):(!its.toArray.isEmpty)= !xs.isEmpty:=by
 cases r<;>simp
theorem Fu:(sizeLine:Nat)<2 ^ 63:=by rw [sizeLine_eq];decide
theorem EG {x:V} (r:Au [x] us):∃u,us=[u]/\Av x u:=by
 cases r with
 | cons r1 r2=>cases r2;exact⟨_,rfl,r1⟩
theorem Hz {x y:V} (r:Au [x,y] us):∃u w',us=[u,w']/\Av x u/\Av y w':=by
 cases r with
 | cons r1 r2=>
  cases r2 with
  | cons r3 r4=>cases r4;exact⟨_,_,rfl,r1,r3⟩
theorem Nw (hc:X.calm=true):Be X (.builtin "max") (λxs H Q=>∃i j,xs=[.int i,.int j]/\Q (.int (if j>i then j else i)) H):=by
 intro pins s σ H xs us Q I r h
 obtain⟨i,j,rfl,q⟩:=h
 obtain⟨u,w',rfl,⟨t,rfl⟩,⟨t',rfl⟩⟩:=Hz r
 refine max_two_ints (I.ok.hd hc) λh' tk k=>⟨_,H,I.kept k,?_,q⟩
 by_cases hj:j>i
 ·rw [if_pos hj,if_pos hj];exact⟨_,rfl⟩
 ·rw [if_neg hj,if_neg hj];exact⟨_,rfl⟩
theorem Fv (hc:X.calm=true):Be X (.builtin "min") (λxs H Q=>∃i j,xs=[.int i,.int j]/\Q (.int (if j<i then j else i)) H):=by
 intro pins s σ H xs us Q I r h
 obtain⟨i,j,rfl,q⟩:=h
 obtain⟨u,w',rfl,⟨t,rfl⟩,⟨t',rfl⟩⟩:=Hz r
 refine min_two_ints (I.ok.hd hc) λh' tk k=>⟨_,H,I.kept k,?_,q⟩
 by_cases hj:j<i
 ·rw [if_pos hj,if_pos hj];exact⟨_,rfl⟩
 ·rw [if_neg hj,if_neg hj];exact⟨_,rfl⟩
theorem HA:Be X (.type "int") (λxs H Q=>(∃i,xs=[.int i]/\Q (.int i) H)\/ ∃k,xs=[.bl k]/\Q (.int (if k then 1 else 0)) H):=by
 intro pins s σ H xs us Q I r h
 rcases h with⟨i,rfl,q⟩ | ⟨k,rfl,q⟩
 ·obtain⟨u,rfl,t,rfl⟩:=EG r
  exact call_int_int ⟨.int i,H,I,⟨_,rfl⟩,q⟩
 ·obtain⟨u,rfl,r1⟩:=EG r
  cases r1
  exact call_int_bool ⟨.int (if k then 1 else 0),H,I.tok _,⟨_,rfl⟩,q⟩
theorem Nx:Be X (.builtin "divmod") (λxs H Q=>∃i j,xs=[.int i,.int j]/\Hx i j/\∀p,H p=none->Q (.ref p) (upd H p (.tup [.int (i / j),.int (i % j)]))):=by
 intro pins s σ H xs us Q I r h
 obtain⟨i,j,rfl,⟨h1,h2⟩,q⟩:=h
 obtain⟨u,w',rfl,⟨t,rfl⟩,⟨t',rfl⟩⟩:=Hz r
 refine divmod_int (by omega) ?_ (.inl (PyProof.noPylong_small (by omega)))
 rw [Int.fdiv_eq_ediv_of_nonneg i (by omega),Int.fmod_eq_emod_of_nonneg i (by omega)]
 have hn:H s.heap.objs.size=none:=I.hok.fresh (Nat.le_refl _)
 refine⟨.ref s.heap.objs.size,_,?_,rfl,q _ hn⟩
 refine I.laid (λb o e=>Heap.get?_push_of_some _ e) (Nat.le_refl _) ⟨by simp only [List.length_cons,List.length_nil];rw [sizeLine_eq];decide,[.int (i / j) s.toks,.int (i % j) (s.toks+1)],.cons ⟨_,rfl⟩ (.cons ⟨_,rfl⟩ .nil),?_⟩
 exact⟨_,Heap.get?_push_size s.heap rfl,rfl,0,rfl⟩
end
end L2
namespace L2
open PySem PySem.Spec PyProof.Rows
structure ObjM (h:Heap) (x dx C:Addr) (mA:Str->Option Value):Prop where
 obj:h.get? x=some (PySem.W.instObj C dx)
 ns:h.Ns1 dx mA
 ne:dx≠x
section
variable {prog : Program} {w : World} {A : Around} {E : Value -> Shared -> Prop} {s : Shared} {K : PySem.W.Frag} {x dx C f : Addr} {mA : Str -> Option Value} {name : Str} {v : Value}
end
section
variable {P : Program} {w : World} {H H' : Hp} {h h' : Heap} {a C dx : Addr} {fs fs' : List (Str × V)}
end
structure Ny (K:PySem.W.Frag) (C:Addr):Prop where
 pg:PySem.W.plainGet K C Str.empty=true
 hd:PySem.W.hasDictIn K C=true
 po:PySem.W.plainOver K C=true
 sa:PySem.W.findIn K (.ref C) "__setattr__"=some (some (.builtin "object.__setattr__"))
structure Con (K:PySem.W.Frag) (C:Addr) (f:Str) (v:V) (u:Value):Prop where
 at_:PySem.W.findIn K (.ref C) f=some (some u)
 rel:Av v u
 get:PySem.W.specialIn K u "__get__"=some none
 cp:PySem.W.copiedNames.contains f=false
structure Meth (K:PySem.W.Frag) (C:Addr) (m:Str) (f:Addr):Prop where
 at_:PySem.W.findIn K (.ref C) m=some (some (.ref f))
 fn:PySem.W.isFn K (.ref f)=true
 kp:PySem.W.keepIn K (.ref f)=true
section
variable {X : Cx} {pins : List (Addr × Obj)} {σ : St} {H : Hp} {s : Shared} {a C dx : Addr} {fs : List (Str × V)} {f : Str} {v : V} {A : Around} {E : Value -> Shared -> Prop}
end
section
variable {X : Cx} {o e value : Expr} {f : Str} {pos pos' tpos : Pos} {ta tv : TE}
end
section
variable {X : Cx} {pins : List (Addr × Obj)} {σ : St} {H : Hp} {s : Shared} {A : Around} {E : Value -> Shared -> Prop} {Q : Value -> Shared -> Prop} {c : Value} {b : Bool}
inductive Cs (K:PySem.W.Frag) (H:Hp):V->Value->Prop where
 | non:Cs K H .non (.type "NoneType")
 | bl (x:Bool):Cs K H (.bl x) (.type "bool")
 | int (i:Int):Cs K H (.int i) (.type "int")
 | str (x:Str):Cs K H (.str x) (.type "str")
 | flt (x:UInt64):Cs K H (.flt x) (.type "float")
 | lst {a:Addr}{xs:List V} (e:H a=some (.lst xs)):Cs K H (.ref a) (.type "list")
 | frz {a:Addr}{o:Obj}{xs:List V} (e:H a=some (.frz o (.lst xs))):Cs K H (.ref a) (.type "list")
 | tup {a:Addr}{xs:List V} (e:H a=some (.tup xs)):Cs K H (.ref a) (.type "tuple")
 | dK {a:Addr}{kvs:List (Ar×V)} (e:H a=some (.dK kvs)):Cs K H (.ref a) (.type "dict")
 | dT {a:Addr}{kvs:List (List Ar×V)} (e:H a=some (.dT kvs)):Cs K H (.ref a) (.type "dict")
 | ins {a C dx : Addr} {fs : List (Str × V)} (e : H a = some (.ins C dx fs)) (cl : Ny K C) (ha : PySem.W.findIn K (.ref C) "__class__" = some (some (.builtin "object.__class__")))
   (hn:PySem.W.specialIn K (.builtin "object.__class__") "__get__"=some (some (.builtin "getset_descriptor.__get__"))) (htk:PySem.W.takesIn K (.builtin "object.__class__")=some true)
   (hm:PySem.W.mroIn K C (.type "object")=some true):Cs K H (.ref a) (.ref C)
end
end L2
namespace L2
open PySem PySem.Spec PyProof.Rows
variable {Q : VK} {us : List Value} {vs : List V} {P : Program} {kindOf : Str -> Option NameKind} {qual : Str} {scope : Scope}
structure Bb (k:Nat) (A:Around):Prop where
 hd:A.handled=none
 dp:A.depth+3 * k+5<recursionLimit
 un:A.units+16 * k+200<cLine
 gd:A.guards=some []
theorem Bb.mono {j k:Nat}{A:Around} (r:Bb k A) (h:j<=k):Bb j A:=⟨r.hd,by have:=r.dp;omega,by have:=r.un;omega,r.gd⟩
theorem Bb.deeper {k:Nat}{A:Around} (r:Bb (k+1) A) (env:Env):Bb k (A.deeper env):=
 ⟨r.hd,by have:=r.dp;show A.depth+1+3 * k+5<_;omega,by have:=r.un;show A.units+3+16 * k+200<_;omega,r.gd⟩
theorem Bb.depth {k:Nat}{A:Around} (r:Bb k A):A.depth<recursionLimit:=by have:=r.dp;omega
def EH:TA:=λ_ H Q=>Q [] H
def Ct (ta:TE) (tr:TA):TA:=fun σ H Q=>ta σ H λx H1=>tr σ H1 λxs H2=>Q (x::xs) H2
section
variable {X : Cx} {e : Expr} {es : List Expr} {te : TE} {t : TA} {pos : Pos}
theorem Cu:PA X [] EH:=λ_ _ _ _ H Q I h=>Calls.spliced_nil ⟨[],H,I,.nil,h⟩
theorem Fw (ha:PE X e te) (hr:PA X es t) (hs:starEach (e::es) X.env=(false,eval e X.env)::starEach es X.env:=by rfl):PA X (e::es) (Ct te t):=by
 intro pos pins s σ H Q I h
 rw [hs]
 show wpAny _ _ (spliced ((false,eval e X.env)::backTo pos (starEach es X.env))) _ _ s
 refine Calls.spliced_cons (Am (ha pins s σ H _ I h) λu s1 ⟨x,H1,I1,r1,q1⟩=>?_)
 exact Am (hr pos pins s1 σ H1 _ I1 q1) λus s2 ⟨xs,H2,I2,r2,q2⟩=>⟨x::xs,H2,I2,.cons r1 r2,q2⟩
end
abbrev Sp:=List V->Hp->VK->XK->Prop
abbrev B3:=List Env->Hp->Shared->XK->Value->Shared->Prop
structure Ea (P:Program) (w:World) (K:PySem.W.Frag) (mg:Str->Option Value) (base:Heap) (A:Around) (outer:List Env) (s:Shared) (H:Hp):Prop where
 frames:A.frames=some outer
 mod:Mod K mg base
 bs:∀b o,base.get? b=some o->s.heap.get? b=some o/\H b=none
 bsz:base.objs.size<=s.heap.objs.size
 funs:s.heap.FunFrames base outer
 frf:∀b∈Br outer,H b=none
 hok:HOk P w H s.heap
 bare:AllBare s.gens
def CE (outer:List Env) (P:Program) (w:World) (H:Hp) (s:Shared) (Q:VK) (u:Value) (s':Shared):Prop:=
 ∃v H',s'.os=s.os/\AllBare s'.gens/\Un (Br outer) [] H H' s.heap s'.heap/\HOk P w H' s'.heap/\Av v u/\Q v H'
def CR (CX:B3) (outer:List Env) (P:Program) (w:World) (H:Hp) (s:Shared) (Q:VK) (E:XK) (r:Result) (s':Shared):Prop:=
 match r with
 | .ok (.ret u)=>CE outer P w H s Q u s'
 | .ok _=>False
 | .error e=>CX outer H s E e s'
structure Cv (P:Program) (w:World) (K:PySem.W.Frag) (mg:Str->Option Value) (base:Heap) (CX:B3) (k:Nat) (f:Addr) (fd:FuncData) (ps:List Str) (sp:Sp):Prop where
 len:∀vs H Q E,sp vs H Q E->vs.length=ps.length
 run:∀(A:Around) (outer:List Env) (s:Shared) (H:Hp) (args:Args) (us:List Value) (vs:List V) (Q:VK) (E:XK),Bb k A->Ea P w K mg base A outer s H->BindsTo s fd args (ps.zip us)->Au vs us->sp vs H Q E->
  codeAny (model P w) A (.call (.ref f) args) (CR CX outer P w H s Q E) s
section
variable {X : Cx} {pins : List (Addr × Obj)} {σ : St} {H : Hp} {s s' : Shared}
theorem Ac.env0 (I:Ac X pins σ H s):Ea X.prog X.w X.K X.mg X.base X.A X.stack s H:=
 ⟨I.ok.frames,I.ok.mod,I.bs,Nat.le_trans I.ok.bsz I.sz,I.stack,I.stkFree,I.hok,I.bare⟩
theorem Ac.after {u:Value} (I:Ac X pins σ H s) (h:CE X.stack X.prog X.w H s Q u s'):EP X pins σ Q u s':=by
 obtain⟨v,H',os,bare,un,hok,r,q⟩:=h
 obtain⟨hh,g,d,t,os'⟩:=s'
 obtain rfl:os'=s.os:=os
 exact⟨v,H',I.call (h':=hh) (g':=g) (d':=d) (t':=t) (ch:=[]) un hok bare (λb z=>absurd z (by simp)),r,q⟩
end
def Nz (sp:Sp) (dvs:List V) (E:XK) (t:TA):TE:=fun σ H Q=>t σ H λvs H1=>sp (vs++dvs) H1 Q E
def Binds (K:PySem.W.Frag) (fd:FuncData) (ps:List Str) (ds:List Value):Prop:=
 ∀(s:Shared) (us:List Value),K.In s.heap->(us++ds).length=ps.length->BindsTo s fd ⟨us,[]⟩ (ps.zip (us++ds))
theorem Binds.all {K:PySem.W.Frag}{fd:FuncData}{ps:List Str} (h:∀us:List Value,us.length=ps.length->bindArgs fd ⟨us,[]⟩=pure (ps.zip us)):Binds K fd ps []:=λs us _ hl=>by
 rw [List.append_nil] at hl ⊢
 exact .of_eq (h us hl)
def HB (CX:B3) (X:Cx) (E:XK):Prop:=∀(pins:List (Addr×Obj)) (σ:St) (H:Hp) (s:Shared) (e:Value) (s':Shared),Ac X pins σ H s->CX X.stack H s E e s'->X.xe e s'
section
variable {X : Cx} {CX : B3} {k : Nat} {f C : Addr} {fd : FuncData} {ps : List Str} {sp : Sp} {dvs : List V} {ds : List Value} {E : XK} {x m : Str} {p pos apos : Pos} {e o : Expr} {es : List Expr} {ta : TE} {t : TA}
theorem NA {pins:List (Addr×Obj)}{σ:St}{H:Hp}{s:Shared} (F:Cv X.prog X.w X.K X.mg X.base CX k f fd ps sp) (hr:Bb k X.A) (hb:Binds X.K fd ps ds) (hd:Au dvs ds) (hx:HB CX X E)
  (I:Ac X pins σ H s) (r:Au vs us) (h:sp (vs++dvs) H Q E):wpAny (model X.prog X.w) X.A (call (.ref f) us) (EP X pins σ Q) X.xe s:=by
 have r2:Au (vs++dvs) (us++ds):=r.append hd
 have hl:(us++ds).length=ps.length:=by rw [<-r2.length];exact F.len _ _ _ _ h
 refine wpAny_call (codeAny_mono (F.run X.A X.stack s H ⟨us,[]⟩ (us++ds) (vs++dvs) Q E hr I.env0 (hb s us I.kIn hl) r2 h) λr s' hq=>?_)
 cases r with
 | error e=>exact hx pins σ H s e s' I hq
 | ok fl=>
  cases fl with
  | ret u=>exact I.after hq
  | next=>exact False.elim hq
  | brk=>exact False.elim hq
  | cont=>exact False.elim hq
theorem NB (F:Cv X.prog X.w X.K X.mg X.base CX k f fd ps sp) (hr:Bb k X.A) (hg:Gl X x) (hm:X.mg x=some (.ref f)) (hk:PySem.W.keepIn X.K (.ref f)=true) (hb:Binds X.K fd ps ds) (hd:Au dvs ds) (hx:HB CX X E)
  (ha:PA X (e::es) t) (hdb:(x==("__debug__" :Str))=false:=by decide) (he:starEach (e::es) X.env=(false,eval e X.env)::starEach es X.env:=by rfl) (hpl:(backTo pos (starEach es X.env)).any (·.1)=false:=by rfl):
  PE X (.Call (.Name x p) (e::es) [] pos) (Nz sp dvs E t):=by
 intro pins s σ H Q I h
 refine wpAny_Call_Name_kw (Ji I hg hm ?_ hdb)
 refine PySem.W.callWith_K (h₀:=X.base) I.ok.mod.kin hk (Am (ha pos pins s σ H _ I h) λus s1 ⟨vs,H1,I1,r,q⟩=>⟨I1.kIn,?_⟩) he hpl
 exact NA F hr hb hd hx I1 r q
structure Mk (K:PySem.W.Frag) (C f:Addr):Prop where
 makes:PySem.W.makesIn K C=true
 init:PySem.W.findIn K (.ref C) "__init__"=some (some (.ref f))
 fn:PySem.W.isFn K (.ref f)=true
 kp:PySem.W.keepIn K (.ref C)=true
end
section
variable {X : Cx} {CX : B3} {k : Nat} {f C : Addr} {fd : FuncData} {ps ks : List Str} {sp : Sp} {E : XK} {x m : Str} {p pos apos kpos : Pos} {e o : Expr} {es : List Expr} {kws : List Keyword} {te ta : TE} {t tk : TA} {nm : Option Str}
structure KBinds (K:PySem.W.Frag) (fd:FuncData) (ps ks:List Str) (g:List Value->List Value->List Value) (gV:List V->List V->List V):Prop where
 to:∀(s:Shared) (us ws:List Value),K.In s.heap->(g us ws).length=ps.length->BindsTo s fd ⟨us,ks.zip ws⟩ (ps.zip (g us ws))
 rel:∀ {vs:List V}{us:List Value}{zs:List V}{ws:List Value},Au vs us->Au zs ws->Au (gV vs zs) (g us ws)
variable {g : List Value -> List Value -> List Value} {gV : List V -> List V -> List V}
end
structure Ay (N P:List Str) (sc:Scope):Prop where
 kind:sc.kind= .function
 co:sc.isCoroutine=false
 gen:sc.isGenerator=false
 nd:N.Nodup
 pre:N.take P.length=P
 par:∀x∈P,sc.names.lookup x=some .local \/sc.names.lookup x=some .cell
 nofree:∀y∈sc.names,y.2≠ .free
theorem AB {N P:List Str}{sc:Scope} (a:sc.kind= .function:=by rfl) (b:sc.isCoroutine=false:=by rfl) (c:sc.isGenerator=false:=by rfl) (d:N.Nodup:=by decide+kernel) (e:N.take P.length=P:=by rfl) (f:∀x∈P,sc.names.lookup x=some .local \/sc.names.lookup x=some .cell:=by decide+kernel) (g:∀y∈sc.names,y.2≠ .free:=by decide+kernel):Ay N P sc:=⟨a,b,c,d,e,f,g⟩
theorem Jx {x:Str}:∀ {binds:List (Str×Value)}{m:Str->Option Value},(∀v,(x,v) ∉ binds)->bindL kindOf binds m x=m x
  | [],_,_=>rfl
  | (n, v) :: r, m, h => by
    unfold bindL
    rw [Jx λw hw=>h w (List.mem_cons_of_mem _ hw)]
    split
    . have:x≠n:=by rintro rfl;exact h v List.mem_cons_self
      simp [this]
    . rfl
theorem Jy {x:Str}:∀ {binds:List (Str×Value)}{m:Str->Option Value},(∀v,(x,v) ∉ binds)->bindC kindOf binds m x=m x
  | [],_,_=>rfl
  | (n, v) :: r, m, h => by
    unfold bindC
    rw [Jy λw hw=>h w (List.mem_cons_of_mem _ hw)]
    split
    . rfl
    . have:x≠n:=by rintro rfl;exact h v List.mem_cons_self
      simp [this]
theorem Jz {kindOf:Str->Option NameKind}{x:Str}{v:Value}:∀ {P:List Str}{vs:List Value}{i:Nat}{m:Str->Option Value},P.Nodup->P[i]? =some x->vs[i]? =some v->kindOf x=some .local ->
  bindL kindOf (P.zip vs) m x=some v
 | [],_,_,_,_,h,_,_=>by simp at h
 | _::_,[],_,_,_,_,h,_=>by simp at h
 | p::P,w::vs,0,m,nd,h1,h2,hk=>by
  simp at h1 h2;subst h1;subst h2
  show bindL kindOf ((p,w)::P.zip vs) m p=_
  unfold bindL
  rw [Jx λv hv=>(List.nodup_cons.mp nd).1 (List.of_mem_zip hv).1,if_pos hk]
  simp
 | p::P,w::vs,i+1,m,nd,h1,h2,hk=>by
  show bindL kindOf ((p,w)::P.zip vs) m x=_
  unfold bindL
  exact Jz (i:=i) (List.nodup_cons.mp nd).2 (by simpa using h1) (by simpa using h2) hk
theorem JA {kindOf:Str->Option NameKind}{x:Str}{v:Value}:∀ {P:List Str}{vs:List Value}{i:Nat}{m:Str->Option Value},P.Nodup->P[i]? =some x->vs[i]? =some v->kindOf x≠some .local ->
  bindC kindOf (P.zip vs) m x=some v
 | [],_,_,_,_,h,_,_=>by simp at h
 | _::_,[],_,_,_,_,h,_=>by simp at h
 | p::P,w::vs,0,m,nd,h1,h2,hk=>by
  simp at h1 h2;subst h1;subst h2
  show bindC kindOf ((p,w)::P.zip vs) m p=_
  unfold bindC
  rw [Jy λv hv=>(List.nodup_cons.mp nd).1 (List.of_mem_zip hv).1,if_neg hk]
  simp
 | p::P,w::vs,i+1,m,nd,h1,h2,hk=>by
  show bindC kindOf ((p,w)::P.zip vs) m x=_
  unfold bindC
  exact JA (i:=i) (List.nodup_cons.mp nd).2 (by simpa using h1) (by simpa using h2) hk
def start (N:List Str) (vs:List V):St:=vs.map some++List.replicate (N.length-vs.length) none
def DN (CX:B3) (P:Program) (w:World) (K:PySem.W.Frag) (mg:Str->Option Value) (base:Heap) (N:List Str) (qual:Str) (scope:Scope) (f:Addr) (cd:Value) (A:Around) (outer:List Env) (s:Shared) (H:Hp) (E:XK):Cx where
 prog:=P
 w:=w
 K:=K
 mg:=mg
 base:=base
 A:=A.deeper (envOfC qual scope s.heap.objs.size f cd)
 N:=N
 s₀:=s
 H₀:=H
 env:=envOfC qual scope s.heap.objs.size f cd
 outer:=outer
 stack:=envOfC qual scope s.heap.objs.size f cd::outer
 ex:=[]
 calm:=true
 fn:=λ_=>true
 pn:=[]
 xe:=λe s'=>wpAny (model P w) (A.deeper (envOfC qual scope s.heap.objs.size f cd)) (leaving (envOfC qual scope s.heap.objs.size f cd) e) (λ_ s''=>CX outer H s E e s'') (λe' s''=>CX outer H s E e' s'') s'
theorem JB {sc:Scope}{n:Nat}{x:Str} (h:sc.names.lookup x=some .cell):∃c,(cellsFrom n sc.names []).lookup x=some c:=by
 have q:=PySem.W.cellsFrom_some sc.names n [] (.inl h)
 exact Option.isSome_iff_exists.mp q
theorem NC {CX:B3}{w:World}{K:PySem.W.Frag}{mg:Str->Option Value}{base:Heap}{N ps:List Str}{f:Addr}{cd:Value}{A:Around}{outer:List Env}{s s1:Shared}{H:Hp}{E:XK}
  (S:Ay N ps scope) (hd:A.handled=none) (e0:Ea P w K mg base A outer s H) (hl:vs.length=ps.length) (r:Au vs us)
  (x:InCallC s s.heap.objs.size (bindL (envOfC qual scope s.heap.objs.size f cd).kindOf (ps.zip us) λ_=>none) (cellsFrom (s.heap.objs.size+1) scope.names []) (bindC (envOfC qual scope s.heap.objs.size f cd).kindOf (ps.zip us) λ_=>none) s1):
  Ac (DN CX P w K mg base N qual scope f cd A outer s H E) [] (start N vs) H s1:=by
 have hpl:ps.length<=N.length:=by have:=congrArg List.length S.pre;rw [List.length_take] at this;omega
 obtain⟨h1,tk,rfl,hk⟩:=x.done
 have noA:∀b:Addr,b ∉(DN CX P w K mg base N qual scope f cd A outer s H E).ex:=λb z=>absurd (show b∈([]:List Addr) from z) (by simp)
 refine⟨⟨e0.mod,S.kind,rfl,rfl,Nat.le_refl _,λy z c h1 h2=>?_,λy hy=>?_,λy c _ h=>?_,λ_=>hd,Around.frames_deeper e0.frames,.inr ⟨rfl,rfl⟩,λb z=>absurd z (noA b),e0.bs,e0.bsz,λb _ _=>noA b,λb z=>absurd z (noA b),e0.funs,e0.frf⟩,
  rfl,e0.bare,Un.kept hk,⟨_,x.toInCall.ns,λi y v h1 h2 h3=>?_⟩,λy c h=>⟨_,x.cell y c h⟩,e0.hok.fresh (Nat.le_refl _),λy c h=>?_,λp hp=>absurd (show p∈([]:List (Addr×Obj)) from hp) (by simp),e0.hok.kept hk,?_⟩
 ·exact name_of_addr x.apart (PySem.mem_of_lookup h1) (PySem.mem_of_lookup h2)
 ·have hy:scope.names.lookup y=some .cell\/scope.names.lookup y=some .free:=hy
  rcases hy with hy | hy
  ·exact JB hy
  ·exact absurd rfl (S.nofree _ (PySem.mem_of_lookup hy))
 ·exact Nat.le_of_lt (x.above y c (PySem.mem_of_lookup h))
 ·have hi:i<vs.length:=by
   unfold start at h2
   by_cases hi:i<vs.length
   ·exact hi
   ·rw [List.getElem?_append_right (by simpa using hi)] at h2
    rw [List.getElem?_replicate] at h2
    split at h2<;>cases h2
  have ha:vs[i]? =some v:=by
   unfold start at h2
   rw [List.getElem?_append_left (by simpa using hi),List.getElem?_map] at h2
   cases e:vs[i]? with
   | none=>rw [e] at h2;cases h2
   | some a=>rw [e] at h2;cases h2;rfl
  obtain⟨u,hu,rv⟩:=r.get ha
  have hp:ps[i]? =some y:=by
   rw [<-S.pre,List.getElem?_take_of_lt (by omega)];exact h1
  have ndP:ps.Nodup:=by rw [<-S.pre];exact S.nd.sublist (List.take_sublist _ _)
  refine⟨u,rv,?_⟩
  rcases S.par y (List.mem_of_getElem? hp) with k | k
  ·exact .inl ⟨k,Jz ndP hp hu k⟩
  ·obtain⟨c,e⟩:=JB (n:=s.heap.objs.size+1) k
   refine .inr ⟨.inl k,c,e,?_⟩
   have q:=x.cell y c e
   rw [JA ndP hp hu (by show scope.names.lookup y≠_;rw [k];decide)] at q
   exact q
 ·exact e0.hok.fresh (Nat.le_of_lt (x.above y c (PySem.mem_of_lookup h)))
 ·unfold start
  show _=N.length
  rw [List.length_append,List.length_map,List.length_replicate]
  omega
theorem ND {CX:B3}{w:World}{K:PySem.W.Frag}{mg:Str->Option Value}{base:Heap}{k:Nat}{f:Addr}{name:Str}{params:Arguments}{body:List Stmt}{dV kV doc pm cdv ct oc:Value}{an od:Option Addr}
  {osl:Array (Option Value)}{N ps:List Str}{sp:Sp} (lk:K.lookup f=some ⟨oc,od,.func (PySem.W.fnOf name qual params body scope dV kV doc pm an cdv ct),osl⟩) (hcd:PySem.W.codeIn K cdv qual=true) (S:Ay N ps scope)
  (len:∀vs H Q E,sp vs H Q E->vs.length=ps.length)
  (hbody : ∀ (A : Around) (outer : List Env) (s : Shared) (H : Hp) (vs : List V) (Q : VK) (E : XK), Bb k (A.deeper (envOfC qual scope s.heap.objs.size f cdv)) -> sp vs H Q E ->
   ∃t,PSs (DN CX P w K mg base N qual scope f cdv A outer s H E) body t/\t { nx:=λ_ H'=>Q .non H',rt:=Q} (start N vs) H):
  Cv P w K mg base CX (k+1) f (PySem.W.fnOf name qual params body scope dV kV doc pm an cdv ct) ps sp:=by
 refine⟨len,λA outer s H args us vs Q E hr e0 hb r hsp=>?_⟩
 have hl:=len _ _ _ _ hsp
 have KX:K.In s.heap:=e0.mod.kin.keeps λb o e=>(e0.bs b o e).1
 have lim:s.heap.NoLimit:=e0.mod.nolimit.keeps λb o e=>(e0.bs b o e).1
 have hkind:∀y∈ps.zip us,scope.names.lookup y.1=some .local \/(scope.names.lookup y.1=some .cell/\((cellsFrom (s.heap.objs.size+1) scope.names []).lookup y.1).isSome=true):=fun⟨n,v⟩ hy=>by
  rcases S.par n (List.of_mem_zip hy).1 with q | q
  ·exact .inl q
  ·exact .inr ⟨q,PySem.W.cellsFrom_some _ _ _ (.inl q)⟩
 refine codeAny_call_function hr.depth (KX _ _ lk) rfl S.co S.gen rfl (PySem.W.codeRec_of KX hcd) (hb _ _ _ _ ?_)
 refine wpAny_newFunctionEnv_cells S.kind hkind λenv he s1 x=>?_
 subst he
 refine⟨lim.keeps x.toInCall.keep,codeAny_func ?_⟩
 obtain⟨t,ht,hq⟩:=hbody A outer s H vs Q E (hr.deeper _) hsp
 have I:Ac (DN CX P w K mg base N qual scope f cdv A outer s H E) [] (start N vs) H s1:=NC S hr.hd e0 hl r x
 refine wpAny_mono (ht [] s1 (start N vs) H _ I hq) (λfl s' hs=>?_) λe s' hs=>hs
 have fin:∀ {σ':St}{H':Hp}{v:V}{u:Value},Ac (DN CX P w K mg base N qual scope f cdv A outer s H E) [] σ' H' s'->Av v u->Q v H'->CE outer P w H s Q u s':=
  λ{σ' H' v u} J rv q=>⟨v,H',J.os,J.bare,J.base,J.hok,rv,q⟩
 cases fl with
 | ret u=>
  obtain⟨v,σ',H',J,rv,q⟩:=hs
  exact fin J rv q
 | next=>
  obtain⟨σ',H',J,q⟩:=hs
  exact fin (v:=V.non) (u:=Value.none) J rfl q
 | brk=>
  obtain⟨_,_,_,q⟩:=hs
  exact False.elim q
 | cont=>
  obtain⟨_,_,_,q⟩:=hs
  exact False.elim q
end L2
namespace L2
open PySem PySem.Spec PyProof.Rows
section
variable {X : Cx} {x : Str} {p pos : Pos} {e : Expr} {es : List Expr} {t : TA} {id T : String} {r : List V -> Hp -> VK -> Prop}
def JC (r:List V->Hp->VK->Prop) (t:TA):TE:=fun σ H Q=>t σ H λvs H1=>r vs H1 Q
theorem AI (hc:Be X (.builtin id) r) (hg:Gl X x) (hm:X.mg x=none) (hv:bootBuiltins x=some (.builtin id)) (ha:PA X (e::es) t) (hn:x≠ "__name__" :=by decide) (hdb:(x==("__debug__" :Str))=false:=by decide)
  (he:starEach (e::es) X.env=(false,eval e X.env)::starEach es X.env:=by rfl) (hpl:(backTo pos (starEach es X.env)).any (·.1)=false:=by rfl):PE X (.Call (.Name x p) (e::es) [] pos) (JC r t):=by
 intro pins s σ H Q I h
 refine wpAny_Call_Name_kw (B1 I hg hm hv ?_ hn hdb)
 exact PyProof.Rows.callWith_builtin1 (Am (ha pos pins s σ H _ I h) λus s1 ⟨vs,H1,I1,r1,q1⟩=>hc pins s1 σ H1 vs us Q I1 r1 q1) he hpl
theorem BB (hc:Be X (.type T) r) (hg:Gl X x) (hm:X.mg x=none) (hv:bootBuiltins x=some (.type T)) (ha:PA X (e::es) t) (hn:x≠ "__name__" :=by decide) (hdb:(x==("__debug__" :Str))=false:=by decide)
  (he:starEach (e::es) X.env=(false,eval e X.env)::starEach es X.env:=by rfl) (hpl:(backTo pos (starEach es X.env)).any (·.1)=false:=by rfl):PE X (.Call (.Name x p) (e::es) [] pos) (JC r t):=by
 intro pins s σ H Q I h
 refine wpAny_Call_Name_kw (B1 I hg hm hv ?_ hn hdb)
 exact PyProof.Rows.callWith_type1 (Am (ha pos pins s σ H _ I h) λus s1 ⟨vs,H1,I1,r1,q1⟩=>hc pins s1 σ H1 vs us Q I1 r1 q1) he hpl
end
end L2
namespace HT
open PySem PyProof.Rows
variable {sl : Addr} {vl vu : Value}
section
open PySem.SeqAt
open PySem.AutoSeq1 (wpAny_loadPart')
open PySem.MeetsSeq PySem.MeetsSeq2 PySem.MeetsSeq3
end
section
variable {prog : Program} {w : World} {A : Around} {E : Value -> Shared -> Prop} {s : Shared}
def sIx (n d:Nat):Option Int->Nat
 | none=>d
 | some v=>if v<0 then(v+(n:Int)).toNat else min v.toNat n
theorem sIx_nat (n d k:Nat):sIx n d (some (k:Int))=min k n:=by
 show(if (k:Int)<0 then((k:Int)+(n:Int)).toNat else min (k:Int).toNat n)=min k n
 rw [if_neg (by omega),Int.toNat_natCast]
theorem NE (n d:Nat) (hd:d<=n) (o:Option Int):sIx n d o<=n:=by
 cases o with
 | none=>exact hd
 | some v=>
  show(if v<0 then(v+(n:Int)).toNat else min v.toNat n)<=n
  by_cases hv:v<0
  ·rw [if_pos hv];omega
  ·rw [if_neg hv];exact Nat.min_le_right _ _
theorem JD (v:Int) (n d:Nat):(if v<0 then max (v+(n:Int)) 0 else min v (n:Int))=((sIx n d (some v):Nat):Int):=by
 show(if v<0 then max (v+(n:Int)) 0 else min v (n:Int))=(((if v<0 then(v+(n:Int)).toNat else min v.toNat n):Nat):Int)
 by_cases hv:v<0
 ·simp only [if_pos hv];omega
 ·simp only [if_neg hv];omega
theorem NF (lo hi:Option Int) (n:Nat):Builtin.Slice.sliceAdjust lo hi 1 (n:Int)=(((sIx n 0 lo:Nat):Int),((sIx n n hi:Nat):Int)):=by
 have h1:¬((1:Int)<0):=by omega
 unfold Builtin.Slice.sliceAdjust
 simp only [h1,if_false]
 refine Prod.ext ?_ ?_
 ·cases lo with
  | none=>rfl
  | some v=>exact JD v n 0
 ·cases hi with
  | none=>rfl
  | some v=>exact JD v n n
theorem NG (i j:Nat):Builtin.Slice.slicePlaces (i:Int) (j:Int) 1=j-i:=by
 unfold Builtin.Slice.slicePlaces
 have h1:(1:Int) >0:=by omega
 simp only [h1,if_true,Int.ediv_one]
 split<;>omega
theorem JE {v:Value}{o:Option Int}{Q:Option Int->Shared->Prop} (p:IsPart v o) (h:Q o s):wpAny (model prog w) A (Builtin.Slice.slicePartIndex v) Q E s:=by
 cases p with
 | none=>exact slicePart_none h
 | int i t=>exact slicePart_int h
theorem sliceApplied_gen {lo hi:Option Int}{n:Nat}{Q:Int×Int×Nat->Shared->Prop} (hs:s.heap.IsSliceOf sl vl vu .none) (pl:IsPart vl lo) (pu:IsPart vu hi)
  (h:Q (((sIx n 0 lo:Nat):Int),1,sIx n n hi-sIx n 0 lo) s):wpAny (model prog w) A (Builtin.Slice.sliceApplied (.ref sl) (pure (n:Int))) Q E s:=by
 obtain⟨os,hos,hcs,hds⟩:=id hs
 unfold Builtin.Slice.sliceApplied Builtin.Slice.sliceFields
 refine wpAny_bind (wpAny_bind (wpAny_field hos hds (x:=vl) rfl (wpAny_bind (wpAny_field hos hds (x:=vu) rfl (wpAny_bind (wpAny_field hos hds (x:= .none) rfl (wpAny_pure ?_)))))))
 refine wpAny_bind (slicePart_none ?_)
 show wpAny _ _ (if ((1:Int)==0)=true then _ else _) _ _ s
 rw [if_neg (by decide)]
 refine wpAny_bind (JE pl (wpAny_bind (JE pu (wpAny_bind (wpAny_pure ?_)))))
 show wpAny _ _ (match Builtin.Slice.sliceAdjust lo hi 1 (n:Int) with | (lo,hi)=>pure (lo,(1:Int),Builtin.Slice.slicePlaces lo hi 1)) _ _ s
 rw [NF lo hi n]
 show wpAny _ _ (pure (((sIx n 0 lo:Nat):Int),(1:Int),Builtin.Slice.slicePlaces ((sIx n 0 lo:Nat):Int) ((sIx n n hi:Nat):Int) 1)) _ _ s
 rw [NG]
 exact wpAny_pure h
theorem NH (xs:Array Value) (i k:Nat):((List.range k).filterMap fun(m:Nat)=>xs[((i:Int)+(m:Int) * 1).toNat]?).toArray=((xs.toList.drop i).take k).toArray:=by
 have e:(fun(m:Nat)=>xs[((i:Int)+(m:Int) * 1).toNat]?)=λm=>xs[i+m]? :=by
  funext m
  have:((i:Int)+(m:Int) * 1).toNat=i+m:=by omega
  rw [this]
 rw [e]
 have:=pick_run xs i k
 rw [List.filterMap_map] at this
 have e2:((λx=>xs[x]?) ∘λx=>i+x)=λm=>xs[i+m]? :=rfl
 rw [e2] at this
 rw [this]
theorem getItem_tuple_cut {t:Addr}{items:Array Value}{lo hi:Option Int}{Q:Value->Shared->Prop} (ht:IsTup s.heap t items) (hs:s.heap.IsSliceOf sl vl vu .none) (pl:IsPart vl lo) (pu:IsPart vu hi)
  (hw:¬(sIx items.size 0 lo=0/\sIx items.size items.size hi=items.size))
  (h:Q (.ref s.heap.objs.size) { s with heap:=s.heap.push { cls:= .type "tuple",data:= .seq ((items.toList.drop (sIx items.size 0 lo)).take (sIx items.size items.size hi-sIx items.size 0 lo)).toArray}})
  (hsz:items.size<=sizeLine):wpAny (model prog w) A (getItem (.ref t) (.ref sl)) Q E s:=by
 have htake:sizeOk (.seq ((items.toList.drop (sIx items.size 0 lo)).take (sIx items.size items.size hi-sIx items.size 0 lo)).toArray):=by
  show((items.toList.drop (sIx items.size 0 lo)).take (sIx items.size items.size hi-sIx items.size 0 lo)).toArray.size<=sizeLine
  rw [List.size_toArray,List.length_take,List.length_drop,Array.length_toList]
  omega
 have hj:sIx items.size items.size hi<=items.size:=NE _ _ (Nat.le_refl _) hi
 obtain⟨os,hos,hcs,hds⟩:=id hs
 have hTs:s.TypeIs (.ref sl) "slice" :=⟨os,hos,hcs⟩
 unfold getItem
 try with_reducible refine wpAny_holding ?_
 first | refine wpAny_bind (wpAny_pure ?_) | skip
 refine wpAny_bind (wpAny_sequenceKey ht.typeIs (by decide) ?_)
 refine wpAny_bind (wpAny_callSpecial?_slot (name:=Str.ofString "__getitem__") ht.typeIs PyProof.Rows.slot_tuple_getitem
  (wpAny_call_entry PyProof.Rows.slot_tuple_getitem ht.typeIs entry_tuple_getitem ?_ (args_tuple_getitem _ _)))
 show wpAny _ _ (Builtin.Tuple.tupleItemsOf (.ref t) >>=_) _ _ s
 refine wpAny_bind (tupleItemsOf_ ht ?_)
 refine wpAny_bind (wpAny_typeOf hTs ?_)
 rw [if_pos (by decide)]
 refine wpAny_bind (sliceApplied_gen hs pl pu ?_)
 have hno:¬((((sIx items.size 0 lo:Nat):Int)==0 &&(1:Int)==1 &&(sIx items.size items.size hi-sIx items.size 0 lo)==items.size)=true):=by
  intro q
  rw [Bool.and_eq_true,Bool.and_eq_true] at q
  have q1:((sIx items.size 0 lo:Nat):Int)=0:=eq_of_beq q.1.1
  have q2:sIx items.size items.size hi-sIx items.size 0 lo=items.size:=eq_of_beq q.2
  exact hw ⟨by omega,by omega⟩
 show wpAny _ _ (if (((sIx items.size 0 lo:Nat):Int)==0 &&(1:Int)==1 &&(sIx items.size items.size hi-sIx items.size 0 lo)==items.size)=true then _ else _) _ _ s
 rw [if_neg hno,NH]
 first
  | exact wpAny_bind (m:=Builtin.Tuple.tupleExact _) (wpAny_newObj_type (wpAny_pure ⟨_,rfl,wpAny_pure h⟩) htake)
  | exact wpAny_bind (m:=Builtin.Tuple.tupleExact _) (wpAny_newObj_type (wpAny_bind (wpAny_pure (wpAny_pure ⟨_,rfl,wpAny_pure h⟩))) htake)
  | exact wpAny_bind (wpAny_bind (m:=Builtin.Tuple.tupleExact _) (wpAny_newObj_type (wpAny_pure (wpAny_pure ⟨_,rfl,wpAny_pure h⟩)) htake))
  | exact wpAny_bind (wpAny_bind (m:=Builtin.Tuple.tupleExact _) (wpAny_newObj_type (wpAny_pure ⟨_,rfl,wpAny_pure h⟩) htake))
end
end HT
namespace L2
open PySem PySem.Spec PyProof.Rows
abbrev TO:=St->Hp->(Option Int->Hp->Prop)->Prop
def PO (X:Cx) (e:Option Expr) (t:TO):Prop:=
 ∀(pins:List (Addr×Obj)) (s:Shared) (σ:St) (H:Hp) (Q:Option Int->Hp->Prop),Ac X pins σ H s->t σ H Q->
  wpAny (model X.prog X.w) X.A (evalPart e X.env) (λu s'=>∃o H',Ac X pins σ H' s'/\IsPart u o/\Q o H') X.xe s
def NI:TO:=λ_ H Q=>Q none H
def NJ (t:TE):TO:=fun σ H Q=>t σ H λx H1=>∃i,x= .int i/\Q (some i) H1
theorem NK {ns:List Int}:∀ {us:List Value},Au (ns.map V.int) us->IntsAre us ns:=by
 induction ns with
 | nil=>intro us r;rw [List.map_nil] at r;cases r;exact .nil
 | cons n ns ih=>
  intro us r
  rw [List.map_cons] at r
  cases r with
  | cons r1 r2=>
   obtain⟨t,e⟩:=r1
   subst e
   exact .cons n t (ih r2)
section
variable {X : Cx} {e : Expr} {te : TE} {lo hi : Option Expr} {tl th : TO} {pos p2 : Pos}
theorem HC:PO X none NI:=by
 intro pins s σ H Q I h
 rw [evalPart_none]
 exact wpAny_pure ⟨none,H,I,.none,h⟩
theorem CW (h:PE X e te):PO X (some e) (NJ te):=by
 intro pins s σ H Q I hw
 rw [evalPart_some]
 refine Am (h pins s σ H _ I hw) λu s1 ⟨x,H1,I1,r1,q1⟩=>?_
 obtain⟨i,rfl,q⟩:=q1
 obtain⟨t,rfl⟩:=r1
 exact⟨some i,H1,I1,.int i t,q⟩
def Fx (X:Cx) (r:V->Option Int->Option Int->Hp->VK->Prop):Prop:=
 ∀(pins:List (Addr×Obj)) (s:Shared) (σ:St) (H:Hp) (x:V) (v vl vu:Value) (lo hi:Option Int) (sl:Addr) (Q:VK),Ac X pins σ H s->Av x v->s.heap.IsSliceOf sl vl vu .none->IsPart vl lo->IsPart vu hi->r x lo hi H Q->
  ∃T id,typeLookup (.type T) "__getitem__"=pure (some (.builtin id))/\s.TypeIs v T/\wpAny (model X.prog X.w) X.A (getItem v (.ref sl)) (EP X pins σ Q) X.xe s
def NL (r:V->Option Int->Option Int->Hp->VK->Prop) (te:TE) (tl th:TO):TE:=fun σ H Q=>te σ H λx H1=>tl σ H1 λl H2=>th σ H2 λu H3=>r x l u H3 Q
theorem Eb {r:V->Option Int->Option Int->Hp->VK->Prop} (hr:Fx X r) (he:PE X e te) (hl:PO X lo tl) (hu:PO X hi th):PE X (.Subscript e (.Slice lo hi none p2) pos) (NL r te tl th):=by
 intro pins s σ H Q I h
 refine Subscript_ (Am (he pins s σ H _ I h) λv s1 ⟨x,H1,I1,r1,q1⟩=>?_)
 refine wpAny_Slice (Am (hl pins s1 σ H1 _ I1 q1) λvl s2 ⟨l,H2,I2,pl,q2⟩=>Am (hu pins s2 σ H2 _ I2 q2) λvu s3 ⟨u,H3,I3,pu,q3⟩=>?_)
 rw [evalPart_none]
 refine wpAny_pure ?_
 have I4:Ac X pins σ H3 { s3 with heap:=s3.heap.push { cls:= .type "slice",data:= .fields #[vl,vu,.none]}}:=I3.kept (t':=s3.toks) λb ob q=>Heap.get?_push_of_some _ q
 obtain⟨T,id,hT,ht,hg⟩:=hr pins { s3 with heap:=s3.heap.push { cls:= .type "slice",data:= .fields #[vl,vu,.none]}} σ H3 x v vl vu l u s3.heap.objs.size Q I4 r1 (Heap.IsSliceOf.new ..) pl pu q3
 show wpAny (model X.prog X.w) X.A (subscriptTail e (.Slice lo hi none p2) v (.ref s3.heap.objs.size)) (EP X pins σ Q) X.xe { s3 with heap:=s3.heap.push { cls:= .type "slice",data:= .fields #[vl,vu,.none]}}
 exact tail_any (ops:=[.ref s3.heap.objs.size,v]) ht hT hg (by with_unfolding_all rfl)
def Bw (xs:List V) (lo hi:Option Int):List V:=(xs.drop (HT.sIx xs.length 0 lo)).take (HT.sIx xs.length xs.length hi-HT.sIx xs.length 0 lo)
theorem Fy (xs:List V) (lo hi:Option Int):(Bw xs lo hi).length<=xs.length:=by
 unfold Bw
 rw [List.length_take,List.length_drop]
 omega
end
end L2
namespace L2
open PySem PySem.Spec PyProof.Rows
variable {i : Int} {j : Nat} {α : Type} {xs : List α} {v u : Value} {pins : List (Addr × Obj)} {σ : St} {H : Hp} {s : Shared} {p : Addr} {y : V}
def CJ (n:Nat) (i:Int):Option Nat:=if 0<=i then(if i<n then some i.toNat else none) else if -(n:Int)<=i then some (i+n).toNat else none
def BT {α:Type} (xs:List α) (i:Int):Option α:=(CJ xs.length i).bind λj=>xs[j]?
theorem JF {n:Nat} (h:CJ n i=some j):seqIndex? i n=some j/\j<n/\ -(n:Int)<=i/\i<n:=by
 unfold CJ at h
 by_cases h0:0<=i
 ·rw [if_pos h0] at h
  by_cases h1:i<n
  ·rw [if_pos h1] at h
   have e:i.toNat=j:=Option.some.inj h
   exact⟨by rw [seqIndex_of h0 h1,e],by omega,by omega,h1⟩
  ·rw [if_neg h1] at h;cases h
 ·rw [if_neg h0] at h
  by_cases h1: -(n:Int)<=i
  ·rw [if_pos h1] at h
   have e:(i+n).toNat=j:=Option.some.inj h
   exact⟨by rw [seqIndex_neg (by omega) h1,e],by omega,h1,by omega⟩
  ·rw [if_neg h1] at h;cases h
theorem JG {v:α} (h:BT xs i=some v):∃j,seqIndex? i xs.length=some j/\xs[j]? =some v/\j<xs.length/\ -(xs.length:Int)<=i/\i<xs.length:=by
 unfold BT at h
 cases e:CJ xs.length i with
 | none=>rw [e] at h;cases h
 | some j=>
  rw [e] at h
  obtain⟨h1,h2,h3,h4⟩:=JF e
  exact⟨j,h1,h,h2,h3,h4⟩
theorem DO {v:α} (h:xs[j]? =some v):BT xs (j:Int)=some v:=by
 have hj:j<xs.length:=(List.getElem?_eq_some_iff.mp h).1
 have e:CJ xs.length (j:Int)=some j:=by
  unfold CJ
  rw [if_pos (by omega),if_pos (by omega)];simp
 unfold BT;rw [e];exact h
def NM (b:Expr):Prop:=∀o i,subscripted b false o i=operate [o,i] (getItem o i)
def EI (X:Cx) (r:R2):Prop:=
 ∀(value slice:Expr) (pins:List (Addr×Obj)) (s:Shared) (σ:St) (H:Hp) (x y:V) (v u:Value) (Q:VK),Ac X pins σ H s->Av x v->Av y u->r x y H Q->
  subscripted slice false v u=operate [v,u] (getItem v u)->wpAny (model X.prog X.w) X.A (subscriptTail value slice v u) (EP X pins σ Q) X.xe s
def NN (X:Cx) (id:String) (r:V->List V->Hp->VK->Prop):Prop:=
 ∀(pins:List (Addr×Obj)) (s:Shared) (σ:St) (H:Hp) (x:V) (xs:List V) (v:Value) (us:List Value) (Q:VK),Ac X pins σ H s->Av x v->Au xs us->r x xs H Q->
  wpAny (model X.prog X.w) X.A (call (.builtin id) (v::us)) (EP X pins σ Q) X.xe s
section
variable {X : Cx} {a b : Expr} {ta tb : TE} {pos : Pos}
theorem AF {r:R2} (hr:EI X r) (ha:PE X a ta) (hb:PE X b tb) (hs:NM b):PE X (.Subscript a b pos) (Fq r ta tb):=by
 intro pins s σ H Q I h
 exact Subscript_ (Hw ha hb I h λv u s2 x y H2 I2 rx ry q=>hr a b pins s2 σ H2 x y v u Q I2 rx ry q (hs _ _))
def JH (K:PySem.W.Frag):R2:=λx y H Q=>∃p xs i v,x= .ref p/\y= .int i/\An K H p xs/\BT xs i=some v/\Q v H
def JI (K:PySem.W.Frag):R2:=λx y H Q=>∃p xs i v,x= .ref p/\y= .int i/\Ae K H p xs/\BT xs i=some v/\Q v H
theorem NO:EI X (JH X.K):=by
 intro value slice pins s σ H x y v u Q I rx ry h hs
 obtain⟨p,xs,i,z,rfl,rfl,hq,he,q⟩:=h
 cases rx
 obtain⟨t,rfl⟩:=ry
 obtain⟨its,r,pl,hz⟩:=I.list hq
 obtain⟨j,h1,h2,h3,h4,h5⟩:=JG he
 obtain⟨w,ew,rw'⟩:=r.get h2
 have hl:=r.length
 have hn:=Fu
 have fin:EP X pins σ Q w s:=⟨z,H,I,rw',q⟩
 by_cases h0:0<=i
 ·have hj:i.toNat=j:=by
   rw [seqIndex_of h0 h5] at h1
   exact Option.some.inj h1
  exact item_listR pl.isList h0 (by omega) (by rw [hj];simpa using ew) fin hs
 ·have hj:(i+(its.toArray.size:Int)).toNat=j:=by
   rw [seqIndex_neg (by omega) h4] at h1
   rw [List.size_toArray,<-hl]
   exact Option.some.inj h1
  exact subscriptTail_builtinR (x:=w) pl.isList.typeIs slot_list_getitem.lookup
   (wpAny_getItem_list_neg (Q:=λr s'=>r=w/\EP X pins σ Q r s') pl.isList (by omega) (by rw [List.size_toArray]<;>omega) (by omega) (by rw [hj];simpa using ew) ⟨rfl,fin⟩) hs
theorem NP:EI X (JI X.K):=by
 intro value slice pins s σ H x y v u Q I rx ry h hs
 obtain⟨p,xs,i,z,rfl,rfl,hq,he,q⟩:=h
 cases rx
 obtain⟨t,rfl⟩:=ry
 obtain⟨its,r,pl,hz⟩:=I.tuple hq
 obtain⟨j,h1,h2,h3,h4,h5⟩:=JG he
 obtain⟨w,ew,rw'⟩:=r.get h2
 have hl:=r.length
 have hn:=Fu
 have fin:EP X pins σ Q w s:=⟨z,H,I,rw',q⟩
 exact subscriptTail_builtinR (x:=w) pl.typeIs slot_tuple_getitem.lookup
  (getItem_tuple (j:=j) (Q:=λr s'=>r=w/\EP X pins σ Q r s') pl (by omega) (by omega) (by rw [List.size_toArray,<-hl];exact h1) (by simpa using ew) ⟨rfl,fin⟩) hs
theorem NQ (its:List Value) (n j:Nat) (u:Value):Obj.mapSeq (·.setIfInBounds j u) { cls:= .type "list",data:= .seq its.toArray n}= { cls:= .type "list",data:= .seq (its.set j u).toArray n}:=by
 simp [Obj.mapSeq]
theorem Ac.lst {xs:List V} (I:Ac X pins σ H s) (h:H p=some (.lst xs)):
  ∃(its:List Value) (n:Nat),Au xs its/\s.heap.get? p=some { cls:= .type "list",data:= .seq its.toArray n}/\xs.length<=sizeLine:=by
 obtain⟨z,its,n,r,e⟩:=I.hok p _ h
 exact⟨its,n,r,e,z⟩
theorem Ac.lstUpd {xs ys:List V}{its its':List Value}{n n':Nat}{f:Obj->Obj} (I:Ac X pins σ H s) (h:H p=some (.lst xs))
  (ho:s.heap.get? p=some { cls:= .type "list",data:= .seq its.toArray n}) (hf:f { cls:= .type "list",data:= .seq its.toArray n}= { cls:= .type "list",data:= .seq its'.toArray n'}) (r:Au ys its') (hz:ys.length<=sizeLine) (t:Nat):
  Ac X pins σ (upd H p (.lst ys)) { s with heap:=s.heap.update p f,toks:=t}:=by
 have e:(s.heap.update p f).get? p=some { cls:= .type "list",data:= .seq its'.toArray n'}:=by
  rw [Heap.get?_update_self f ho (by rw [hf]<;>rfl),hf]
 refine I.write (x:=p) (e:=p) (by rw [h];trivial) (.inl rfl) (λb u hb q=>(Heap.get?_update_other _ _ (Ne.symm hb)).trans q) ⟨_,e⟩ ?_
 exact⟨hz,its',n',r,e⟩
def NR:V->V->V->Hp->(Hp->Prop)->Prop:=λo i v H Q=>∃p xs k j,o= .ref p/\i= .int k/\H p=some (.lst xs)/\CJ xs.length k=some j/\Q (upd H p (.lst (xs.set j v)))
theorem HD:Jk X NR:=by
 intro pins s σ H o i v ov iv u Q I ro ri rv h
 obtain⟨p,xs,k,j,rfl,rfl,hp,hj,q⟩:=h
 cases ro
 obtain⟨t,rfl⟩:=ri
 obtain⟨its,n,r,ho,hz⟩:=I.lst hp
 obtain⟨h1,h2,h3,h4⟩:=JF hj
 have hl:=r.length
 have hn:=Fu
 have I':Ac X pins σ (upd H p (.lst (xs.set j v))) { s with heap:=s.heap.update p (Obj.mapSeq (·.setIfInBounds j u))}:=
  I.lstUpd hp ho (NQ its n j u) (r.set rv j) (by rw [List.length_set];exact hz) s.toks
 by_cases h0:0<=k
 ·have hk:k.toNat=j:=by
   rw [seqIndex_of h0 h4] at h1
   exact Option.some.inj h1
  exact PySem.W.ki_setAt ho h0 (by omega) (by rw [List.size_toArray,<-hl];exact h4) (by rw [hk];exact⟨_,I',q⟩)
 ·have hk:(k+(its.toArray.size:Int)).toNat=j:=by
   rw [seqIndex_neg (by omega) h3] at h1
   rw [List.size_toArray,<-hl]
   exact Option.some.inj h1
  exact PySem.W.ki_setBack ho (by omega) (by rw [List.size_toArray,<-hl];exact h3) (by omega) (by rw [hk];exact⟨_,I',q⟩)
theorem NS (lo hi:Option Int) (n:Nat):(sliceBounds lo hi none n).1=((HT.sIx n 0 lo:Nat):Int)/\(sliceBounds lo hi none n).2.1=((HT.sIx n n hi:Nat):Int)/\(sliceBounds lo hi none n).2.2=1:=by
 refine⟨?_,?_,rfl⟩
 ·cases lo with
  | none=>simp [sliceBounds,HT.sIx]
  | some i=>
   simp only [sliceBounds,HT.sIx,Option.getD_none,show(1:Int) >0 by decide,if_true]
   by_cases h:i<0
   ·simp only [h,if_true]<;>omega
   ·simp only [h,if_false]<;>omega
 ·cases hi with
  | none=>simp [sliceBounds,HT.sIx]
  | some i=>
   simp only [sliceBounds,HT.sIx,Option.getD_none,show(1:Int) >0 by decide,if_true]
   by_cases h:i<0
   ·simp only [h,if_true]<;>omega
   ·simp only [h,if_false]<;>omega
theorem NT (its:List Value) (lo hi:Option Int):slicePick its.toArray lo hi none=((its.drop (HT.sIx its.length 0 lo)).take (HT.sIx its.length its.length hi-HT.sIx its.length 0 lo)).toArray:=by
 obtain⟨h1,h2,h3⟩:=NS lo hi its.toArray.size
 unfold slicePick
 rw [h1,h2,h3]
 simp only [sliceRange_one,pick_run,List.size_toArray]<;>rfl
def JJ (K:PySem.W.Frag):V->Option Int->Option Int->Hp->VK->Prop:=λx lo hi H Q=>∃a xs,x= .ref a/\An K H a xs/\∀p,H p=none->Q (.ref p) (upd H p (.lst (Bw xs lo hi)))
theorem NU:Fx X (JJ X.K):=by
 intro pins s σ H x v vl vu lo hi sl Q I rx hs pl pu h
 obtain⟨a,xs,rfl,hx,q⟩:=h
 cases rx
 obtain⟨its,r,ht,hz⟩:=I.list hx
 have hlen:=r.length
 refine⟨"list",_,slot_list_getitem.lookup,ht.isList.typeIs,?_⟩
 refine wpAny_getItem_list_slice ht.isList hs pl pu .none (by simp) ?_ (by rw [List.size_toArray]<;>omega)
 rw [NT,<-hlen]
 refine⟨.ref s.heap.objs.size,_,I.laid (t':=s.toks) (o:= .lst (Bw xs lo hi)) (λb ob q=>Heap.get?_push_of_some _ q) (Nat.le_refl _) ?_,rfl,q _ (I.hok.fresh (Nat.le_refl _))⟩
 exact⟨Nat.le_trans (Fy xs lo hi) hz,_,0,(r.drop (HT.sIx xs.length 0 lo)).take (HT.sIx xs.length xs.length hi-HT.sIx xs.length 0 lo),Heap.get?_push_size _ rfl⟩
def CK:V->Bool
 | .non=>true
 | .bl _=>true
 | .int _=>true
 | .str _=>true
 | _=>false
def CL:V->V->Bool
 | .non,.non=>true
 | .bl a,.bl b=>a==b
 | .bl a,.int b=>(if a then 1 else 0)==b
 | .int a,.bl b=>a==(if b then 1 else 0)
 | .int a,.int b=>a==b
 | .str a,.str b=>a==b
 | _,_=>false
theorem NV {A:Around}{x:V} (ry:Av y u) (rx:Av x v) (fy:CK y=true) (fx:CK x=true):SeqAt.EqAt A s u v (CL y x):=by
 cases y with
 | non=>
  cases ry
  cases x with
  | non=>cases rx;exact SeqAt.EqAt.same _
  | bl b=>cases rx;exact SeqAt.EqAt.none_bool b
  | int b=>obtain⟨t,rfl⟩:=rx;exact SeqAt.EqAt.none_int b t
  | str b=>obtain⟨t,rfl⟩:=rx;exact SeqAt.EqAt.none_str b t
  | _=>exact absurd (show false=true from fx) Bool.false_ne_true
 | bl a=>
  cases ry
  cases x with
  | non=>cases rx;exact SeqAt.EqAt.bool_none a
  | bl b=>cases rx;exact SeqAt.EqAt.bool_bool a b
  | int b=>obtain⟨t,rfl⟩:=rx;exact SeqAt.EqAt.bool_int a b t
  | str b=>obtain⟨t,rfl⟩:=rx;exact SeqAt.EqAt.bool_str a b t
  | _=>exact absurd (show false=true from fx) Bool.false_ne_true
 | int a=>
  obtain⟨t',rfl⟩:=ry
  cases x with
  | non=>cases rx;exact SeqAt.EqAt.int_none a t'
  | bl b=>cases rx;exact SeqAt.EqAt.int_bool a t' b
  | int b=>obtain⟨t,rfl⟩:=rx;exact SeqAt.EqAt.int_int a t' b t
  | str b=>obtain⟨t,rfl⟩:=rx;exact SeqAt.EqAt.int_str a t' b t
  | _=>exact absurd (show false=true from fx) Bool.false_ne_true
 | str a=>
  obtain⟨t',rfl⟩:=ry
  cases x with
  | non=>cases rx;exact SeqAt.EqAt.str_none a t'
  | bl b=>cases rx;exact SeqAt.EqAt.str_bool a t' b
  | int b=>obtain⟨t,rfl⟩:=rx;exact SeqAt.EqAt.str_int a t' b t
  | str b=>obtain⟨t,rfl⟩:=rx;exact SeqAt.EqAt.str_str a t' b t
  | _=>exact absurd (show false=true from fx) Bool.false_ne_true
 | _=>exact absurd (show false=true from fy) Bool.false_ne_true
def CY (x:V) (u:Value):Bool:=match u with
 | .none=>CL .non x
 | .bool b=>CL (.bl b) x
 | .int i _=>CL (.int i) x
 | .str z _=>CL (.str z) x
 | _=>false
theorem JK {x:V} (r:Av y u) (f:CK y=true):CY x u=CL y x:=by
 cases y with
 | non=>cases r;rfl
 | bl b=>cases r;rfl
 | int i=>obtain⟨t,rfl⟩:=r;rfl
 | str z=>obtain⟨t,rfl⟩:=r;rfl
 | _=>exact absurd (show false=true from f) Bool.false_ne_true
theorem HE {x:V}:∀ {xs:List V}{us:List Value},Au xs us->xs.all CK=true->us.any (CY x)=xs.any λy=>CL y x
 | _,_,.nil,_=>rfl
 | y::xs,u::us,.cons r t,f=>by
  rw [List.all_cons,Bool.and_eq_true] at f
  rw [List.any_cons,List.any_cons,JK r f.1,HE t f.2]
theorem HF {A:Around}{x:V} (rx:Av x v) (fx:CK x=true):∀ {xs:List V}{us:List Value},Au xs us->xs.all CK=true->∀u∈us,SeqAt.EqAt A s u v (CY x u)
 | _,_,.nil,_=>λu hu=>by cases hu
 | y::xs,u::us,.cons r t,f=>λu' hu=>by
  rw [List.all_cons,Bool.and_eq_true] at f
  rcases List.mem_cons.mp hu with rfl | hu
  ·rw [JK r f.1];exact NV r rx f.1 fx
  ·exact HF rx fx t f.2 u' hu
def BC (x:V) (xs:List V):Bool:=xs.any λy=>CL y x
def JL (K:PySem.W.Frag) (neg:Bool):R2:=λx y H Q=>∃p xs,y= .ref p/\(An K H p xs\/Ae K H p xs)/\CK x=true/\xs.all CK=true/\Q (.bl (if neg then !BC x xs else BC x xs)) H
theorem NW:OpR X (compareOp .In) (JL X.K false):=by
 intro pins s σ H x y v u Q I rx ry h
 obtain⟨p,xs,rfl,hq,fx,fs,q⟩:=h
 cases ry
 rcases hq with hq | hq
 ·obtain⟨its,r,pl,hz⟩:=I.list hq
  refine SeqAt.in_listAt (CY x) pl.isList (λw hw=>HF rx fx r fs w (by simpa using hw)) ⟨.bl _,H,I,rfl,?_⟩
  rw [show its.toArray.any (CY x)=its.any (CY x) by simp,HE r fs]
  exact q
 ·obtain⟨its,r,pl,hz⟩:=I.tuple hq
  refine SeqAt.in_tupleAt (CY x) pl (λw hw=>HF rx fx r fs w (by simpa using hw)) ⟨.bl _,H,I,rfl,?_⟩
  rw [show its.toArray.any (CY x)=its.any (CY x) by simp,HE r fs]
  exact q
theorem NX:Be X (.builtin "len") (λxs H Q=>∃p ys,xs=[.ref p]/\(An X.K H p ys\/Ae X.K H p ys)/\Q (.int ys.length) H):=by
 intro pins s σ H xs us Q I r h
 obtain⟨p,ys,rfl,hq,q⟩:=h
 obtain⟨u,rfl,rx⟩:=EG r
 cases rx
 have hn:=Fu
 rcases hq with hq | hq
 ·obtain⟨its,r',pl,hz⟩:=I.list hq
  have hlen:=r'.length
  exact Calls.call_len_list pl.isList (by simp only [List.size_toArray]<;>omega) ⟨.int ys.length,H,I.tok _,⟨s.toks+1,by rw [List.size_toArray,hlen]⟩,q⟩
 ·obtain⟨its,r',pl,hz⟩:=I.tuple hq
  have hlen:=r'.length
  exact len_tuple pl (by simp only [List.size_toArray]<;>omega) ⟨.int ys.length,H,I.tok _,⟨s.toks+1,by rw [List.size_toArray,hlen]⟩,q⟩
theorem NY:Be X (.type "list") (λxs H Q=>∃p ys,xs=[.ref p]/\(An X.K H p ys\/Ae X.K H p ys)/\∀l,H l=none->Q (.ref l) (upd H l (.lst ys))):=by
 intro pins s σ H xs us Q I r h
 obtain⟨p,ys,rfl,hq,q⟩:=h
 obtain⟨u,rfl,rx⟩:=EG r
 cases rx
 have fin:∀(its:List Value),Au ys its->ys.length<=sizeLine->∀(h':Heap) (c':Nat),(∀b o',s.heap.get? b=some o'->h'.get? b=some o')->
   h'.get? s.heap.objs.size=some { cls:= .type "list",dict:=none,data:= .seq its.toArray c',slots:= #[]}->EP X pins σ Q (.ref s.heap.objs.size) { s with heap:=h'}:=λits r' hz h' c' kp e=>
  ⟨.ref s.heap.objs.size,_,I.laid (t':=s.toks) kp (Nat.le_refl _) (show ObjOk X.prog X.w _ h' _ (.lst ys) from⟨hz,its,c',r',e⟩),rfl,q _ (I.hok.fresh (Nat.le_refl _))⟩
 rcases hq with hq | hq
 ·obtain⟨its,r',pl,hz⟩:=I.list hq
  have hlen:=r'.length
  obtain⟨o,ho,hc,n,hd⟩:=pl.isList
  exact call_list_seq p (.inl rfl) ho hc hd (λh' c' kp e=>fin its r' hz h' c' kp e) (by simp only [List.size_toArray]<;>omega)
 ·obtain⟨its,r',pl,hz⟩:=I.tuple hq
  have hlen:=r'.length
  obtain⟨o,ho,hc,n,hd⟩:=pl
  exact call_list_seq p (.inr rfl) ho hc hd (λh' c' kp e=>fin its r' hz h' c' kp e) (by simp only [List.size_toArray]<;>omega)
theorem NZ:Be X (.type "tuple") (λxs H Q=>∃p ys,xs=[.ref p]/\((An X.K H p ys/\∀l,H l=none->Q (.ref l) (upd H l (.tup ys)))\/(Ae X.K H p ys/\Q (.ref p) H))):=by
 intro pins s σ H xs us Q I r h
 obtain⟨p,ys,rfl,h⟩:=h
 obtain⟨u,rfl,rx⟩:=EG r
 cases rx
 rcases h with⟨hq,q⟩ | ⟨hq,q⟩
 ·obtain⟨its,r',pl,hz⟩:=I.list hq
  have hlen:=r'.length
  refine call_tuple_list pl.isList (λh' kp=>?_) (by simp only [List.size_toArray]<;>omega)
  have I1:Ac X pins σ H { s with heap:=h'}:=I.kept (t':=s.toks) kp
  have I2:Ac X pins σ (upd H h'.objs.size (.tup ys)) { s with heap:=h'.push { cls:= .type "tuple",data:= .seq its.toArray}}:=
   I1.laid (t':=s.toks) (λb o e=>Heap.get?_push_of_some _ e) (Nat.le_refl _) (show ObjOk X.prog X.w _ _ _ (.tup ys) from⟨hz,its,r',IsTup.new _ _⟩)
  exact⟨.ref h'.objs.size,_,I2,rfl,q _ (I1.hok.fresh (Nat.le_refl _))⟩
 ·obtain⟨its,r',pl,hz⟩:=I.tuple hq
  exact call_tuple_same pl ⟨.ref p,H,I,rfl,q⟩
def JM (K:PySem.W.Frag) (T:String) (x:V) (H:Hp):Prop:=match x with
 | .str _=>T="str"
 | .int _=>T="int"
 | .ref p => (T = "list" /\ ∃ xs, An K H p xs) \/ (T = "tuple" /\ ∃ o, K.lookup p = some o /\ o.cls = .type "tuple" /\ o.dict = none) \/
   (T="dict" /\((∃kvs,H p=some (.dK kvs))\/ ∃kvs,H p=some (.dT kvs)))\/(T="set" /\∃S n,H p=some (.set S n))
 | _=>False
theorem N3 {T:String}{x:V} (I:Ac X pins σ H s) (r:Av x v) (ty:JM X.K T x H):
  s.TypeIs v T/\∀a,v= .ref a->∃ob,s.heap.get? a=some ob/\ob.dict=none:=by
 cases x with
 | str z=>
  obtain⟨t,rfl⟩:=r
  cases(show T="str" from ty)
  exact⟨typeIs_str s z t,λ_ e=>nomatch e⟩
 | int i=>
  obtain⟨t,rfl⟩:=r
  cases(show T="int" from ty)
  exact⟨typeIs_int s i t,λ_ e=>nomatch e⟩
 | ref p=>
  cases r
  rcases ty with⟨rfl,xs,hq⟩ | ⟨rfl,o,hk,hc,hd⟩ | ⟨rfl,hk⟩ | ⟨rfl,S,n,hk⟩
  ·obtain⟨its,_,pl,_⟩:=I.list hq
   refine⟨pl.isList.typeIs,λa e=>?_⟩
   cases e
   obtain⟨o,n,e,c,hd,_⟩:=pl
   exact⟨o,e,hd⟩
  ·refine⟨⟨o,I.kIn p o hk,hc⟩,λa e=>?_⟩
   cases e
   exact⟨o,I.kIn _ o hk,hd⟩
  ·have z:∃o,s.heap.get? p=some o/\o.ExactDict:=by
    rcases hk with⟨kvs,hk⟩ | ⟨kvs,hk⟩
    ·obtain⟨_,_,_,_,o,_,_,e,ex,_⟩:=I.hok p _ hk
     exact⟨o,e,ex⟩
    ·obtain⟨_,_,_,_,o,_,_,e,ex,_⟩:=I.hok p _ hk
     exact⟨o,e,ex⟩
   obtain⟨o,e,ex⟩:=z
   refine⟨⟨o,e,ex.1⟩,λa e2=>?_⟩
   cases e2
   exact⟨o,e,ex.2.1⟩
  ·obtain⟨o,_,_,_,e,ex,_⟩:=I.hok p _ hk
   refine⟨⟨o,e,ex.1⟩,λa e2=>?_⟩
   cases e2
   exact⟨o,e,ex.2.1⟩
 | _=>exact False.elim ty
def N4 (K:PySem.W.Frag) (T:String) (r:V->List V->Hp->VK->Prop) (to:TE) (t:TA):TE:=fun σ H Q=>to σ H λx H1=>JM K T x H1/\t σ H1 λxs H2=>r x xs H2 Q
variable {o e : Expr} {es : List Expr} {to : TE} {t : TA} {name : Str} {apos cpos : Pos} {T id : String} {r : V -> List V -> Hp -> VK -> Prop}
theorem CM (pa:PlainAttrs T) (slot:Slot T name id) (hty:typeOf (.builtin id)=pure (.type "method_descriptor")) (hm:NN X id r) (ho:PE X o to) (ha:PA X (e::es) t)
  (hbase:attributeBase o name X.env (eval o X.env)=eval o X.env:=by rfl)
  (hfew : ((backTo cpos (starEach (e :: es) X.env)).all (λx => !x.1) && (backToKw cpos (keywordEach [] X.env)).all (λx => x.1.isSome)
   && decide ((e::es).length+([]:List Keyword).length+(if ([]:List Keyword).isEmpty then 0 else 1)<30))=true:=by rfl)
  (hline:(apos.endLine==cpos.line)=true:=by rfl) (hs:starEach (e::es) X.env=(false,eval e X.env)::starEach es X.env:=by rfl) (hplain:(backTo cpos (starEach es X.env)).any (·.1)=false:=by rfl):
  PE X (.Call (.Attribute o name apos) (e::es) [] cpos) (N4 X.K T r to t):=by
 intro pins s σ H Q I h
 refine wpAny_Call_method_late hbase hfew hline rfl (Am (ho pins s σ H _ I h) λv s1 ⟨x,H1,I1,r1,ty,q1⟩=>?_)
 obtain⟨h1,h2⟩:=N3 I1 r1 ty
 refine⟨T,id,pa,slot,hty,h1,h2,?_⟩
 have hA:=ha cpos pins s1 σ H1 _ I1 q1
 rw [hs] at hA ⊢
 refine Calls.callWith_builtin (by show(false || (backTo cpos (starEach es X.env)).any (·.1))=false;rw [hplain]<;>rfl) (Calls.evalArgs_plain ?_)
 exact Am hA λus s2 ⟨vs,H2,I2,r2,q2⟩=>hm pins s2 σ H2 x vs v us Q I2 r1 r2 q2
end
end L2
namespace L2
open PySem PySem.Spec PyProof.Rows
def N5 (X:Cx) (id:String) (r:V->List V->Hp->VK->Prop):Prop:=
 ∀(pins:List (Addr×Obj)) (s:Shared) (σ:St) (H:Hp) (x:V) (xs:List V) (v:Value) (us:List Value) (Q:VK),Ac X pins σ H s->Av x v->Au xs us->r x xs H Q->
  wpAny (model X.prog X.w) X.A (call (.builtin id) (v::us)) (EP X pins σ Q) X.xe s
theorem Au.one:∀ {x:V}{us:List Value},Au [x] us->∃u,us=[u]/\Av x u
 | _,_,.cons r .nil=>⟨_,rfl,r⟩
theorem Au.two:∀ {x y:V}{us:List Value},Au [x,y] us->∃u v,us=[u,v]/\Av x u/\Av y v
 | _,_,_,.cons r (.cons q .nil)=>⟨_,_,rfl,r,q⟩
theorem Au.rep {xs:List V}{us:List Value} (h:Au xs us):∀k:Nat,Au (List.replicate k xs).flatten (List.replicate k us).flatten
 | 0=> .nil
 | k+1=>by
  rw [List.replicate_succ,List.replicate_succ,List.flatten_cons,List.flatten_cons]
  exact Au.append h (Au.rep h k)
theorem JN (its:List Value):∀(k:Nat) (acc:List Value),
  List.foldl (λx1 x2=>x1++x2) acc.toArray (List.replicate k its.toArray)=(acc++(List.replicate k its).flatten).toArray
 | 0,acc=>by simp
 | k+1,acc=>by
  have e:acc.toArray++its.toArray=(acc++its).toArray:=by simp
  have e2:(acc++its)++(List.replicate k its).flatten=acc++(List.replicate (k+1) its).flatten:=by
   rw [List.replicate_succ,List.flatten_cons,List.append_assoc]
  rw [<-e2,<-JN its k (acc++its),<-e,List.replicate_succ,List.foldl_cons]
section
variable {X : Cx} {pins : List (Addr × Obj)} {σ : St} {H : Hp} {s : Shared} {l b : Addr} {xs ys zs : List V}
theorem Ac.lset {its its':List Value}{n:Nat}{f:Array Value->Array Value}{t':Nat} (I:Ac X pins σ H s) (hH:H l=some (.lst xs))
  (e:s.heap.get? l=some { cls:= .type "list",data:= .seq its.toArray n}) (hf:f its.toArray=its'.toArray) (hv:Au ys its') (hz:ys.length<=sizeLine):
  Ac X pins σ (upd H l (.lst ys)) { s with heap:=s.heap.update l (Obj.mapSeq f),toks:=t'}:=by
 have q:=PySem.IsL.update e f
 rw [hf] at q
 refine I.write (x:=l) (e:=l) (by rw [hH];exact trivial) (.inl rfl) (λb' u hb hu=>(Heap.get?_update_other s.heap (Obj.mapSeq f) (Ne.symm hb)).trans hu) ⟨_,q⟩ ?_
 exact⟨hz,its',_,hv,q⟩
theorem Ac.lnew {its:List Value}{t':Nat} (I:Ac X pins σ H s) (hv:Au ys its) (hz:ys.length<=sizeLine):
  Ac X pins σ (upd H s.heap.objs.size (.lst ys)) { s with heap:=s.heap.push { cls:= .type "list",data:= .seq its.toArray},toks:=t'}:=
 I.laid (λ_ _ q=>Heap.get?_push_of_some _ q) (Nat.le_refl _) ⟨hz,its,0,hv,Heap.get?_push_size _ rfl⟩
theorem Ac.fresh (I:Ac X pins σ H s):H s.heap.objs.size=none:=I.hok.fresh (Nat.le_refl _)
theorem Ac.lstM (I:Ac X pins σ H s) (hH:H l=some (.lst xs)):xs.length<=sizeLine/\∃(its:List Value) (n:Nat),Au xs its/\xs.length=its.length/\s.heap.get? l=some { cls:= .type "list",data:= .seq its.toArray n}:=by
 obtain⟨z,its,n,r,e⟩:=I.hok l _ hH
 exact⟨z,its,n,r,r.length,e⟩
theorem notLongL {n:Nat} (h:n<=sizeLine):Builtin.List.listTooLong n=false:=by
 unfold Builtin.List.listTooLong
 exact decide_eq_false (by omega)
end
section
variable {X : Cx}
def N6:V->List V->Hp->VK->Prop:=λx vs H Q=>∃l xs y,x= .ref l/\vs=[y]/\H l=some (.lst xs)/\xs.length<sizeLine/\Q .non (upd H l (.lst (xs++[y])))
theorem CN:N5 X "list.append" N6:=by
 intro pins s σ H x vs v us Q I rx rv h
 obtain⟨l,xs,y,rfl,rfl,hH,hz,q⟩:=h
 cases rx
 obtain⟨u,rfl,ru⟩:=rv.one
 obtain⟨z,its,n,r,hl,e⟩:=I.lstM hH
 refine call_meets F.slot_list_append ⟨_,e,rfl⟩ F.entry_list_append (F.args_list_append_2 _ _) (PySem.list_append l its.toArray n u (by rw [List.size_toArray];omega)) ⟨e,?_⟩
 refine⟨.non,_,I.lset (its':=its++[u]) hH e (by simp) (r.append (.cons ru .nil)) ?_,rfl,q⟩
 rw [List.length_append,List.length_singleton]
 omega
def N7:R2:=λx y H Q=>∃l b xs zs,x= .ref l/\y= .ref b/\H l=some (.lst xs)/\H b=some (.lst zs)/\xs.length+zs.length<=sizeLine/\∀p,H p=none->Q (.ref p) (upd H p (.lst (xs++zs)))
theorem N8:OpR X (binaryOp .Add) N7:=by
 intro pins s σ H x y v u Q I rx ry h
 obtain⟨l,b,xs,zs,rfl,rfl,hH,hB,hz,q⟩:=h
 cases rx
 cases ry
 obtain⟨z,its,n,r,hl,e⟩:=I.lstM hH
 obtain⟨z2,its2,n2,r2,hl2,e2⟩:=I.lstM hB
 refine PySem.P.add_list e e2 ?_ (by rw [List.size_toArray,List.size_toArray];omega)
 have ea:its.toArray++its2.toArray=(its++its2).toArray:=by simp
 rw [ea]
 exact⟨.ref _,_,I.lnew (t':=s.toks) (r.append r2) (by rw [List.length_append];omega),rfl,q _ I.fresh⟩
theorem JO {α:Type} (xs:List α) (k:Nat):(List.replicate k xs).flatten.length=k * xs.length:=by
 induction k with
 | zero=>simp
 | succ k ih=>rw [List.replicate_succ,List.flatten_cons,List.length_append,ih,Nat.succ_mul,Nat.add_comm]
end
section
variable {prog : Program} {w : World} {A : Around} {E : Value -> Shared -> Prop} {s : Shared}
end
section
variable {X : Cx}
end
end L2
namespace Att
open PySem PySem.W PySem.Calls PyProof.Rows
theorem N9 {P:Params}{h:Heap}:∀(ns:List Int) (vs:List Value),WellAll P h vs (ns.map WData.int)->IntsAre vs ns:=by
 intro ns
 induction ns with
 | nil=>
  intro vs w
  rw [List.map_nil] at w
  cases w
  exact .nil
 | cons n ns ih=>
  intro vs w
  rw [List.map_cons] at w
  cases w with
  | cons a b=>
   cases a
   exact .cons _ _ (ih _ b)
theorem Oa {l:OpenLaw}{n:Nat} (hn:l.most=some n) {P:Params}{h:Heap}{args:List WData}{vals:List Value}
    (hpre:l.row.toRowW.claim.pre args=true) (hwl:WellAll P h vals args):
    ∃a vs ns,vals=[Value.ref a]/\args=[WData.list (ns.map WData.int)]/\h.get? a=some { cls:= .type "list",data:= .seq vs.toArray}/\IntsAre vs ns/\ns.length<=n:=by
  have hsh:WShape.hasAll [] args [.list .int]=true:=(pre_splitW hpre).1
  have hc:l.pre.holds [] { args:=args}=true:=(pre_splitW hpre).2
  obtain⟨d,r,rfl,h1,h2⟩:=hasAllW_cons hsh
  obtain rfl:=hasAllW_nil h2
  obtain⟨xs,rfl,h3⟩:=hasW_list h1
  obtain⟨ns,rfl⟩:=items_int h3
  have hlen:ns.length<=n:=by
    unfold OpenLaw.pre at hc
    have h4:(WTm.not (.lt (.lit (.int (n:Int))) (.len (.arg 0)))).holds [] { args:=[.list (ns.map .int)]}=true:=by
      have h4:=(holds_andW hc).1
      rw [hn] at h4
      exact h4
    have h5:=condW_of h4 (w_not (w_lt w_lit (w_len_list (w_arg rfl))))
    rw [List.length_map] at h5
    refine Nat.le_of_not_lt λq=>?_
    have q':(n:Int)<((ns.length:Nat):Int):=by omega
    first
      | (rw [decide_eq_true q'] at h5;exact absurd h5 (by decide))
      | (simp at h5;omega)
  cases hwl with
  | cons w1 w2 =>
    cases w2
    cases w1 with
    | list ho hall=>exact⟨_,_,ns,rfl,rfl,ho,N9 ns _ hall,hlen⟩
theorem Ob (l:OpenLaw) (args:List WData):l.row.toRowW.claim.post args (.bool true) args=true:=
 postW_of (r:=l.row.toRowW) (X:=(true==true))
  (show WShape.has [] (.bool true) .bool=true by first | rfl | decide | simp [WShape.has,WShape.arms,WShape.armsAll])
  (show(WTm.eq .res (.lit (.bool true))).value [] { args:=args,res:=some (.bool true),after:=args}=some (.bool (true==true)) from w_eq_bool (w_res rfl) w_lit) rfl
theorem attach_call {l:OpenLaw}{n:Nat}{q:Program}{loose:List Str}{XP:(Str->Option Value)->Heap->Prop}{YP:World->Heap->Prop}{d:DefRec}
  (hn:l.most=some n) (hdf:d.params.defaults=[])
  (call : ∀ (w : World) (s₀ s₁ : Shared) (mg mb : Str -> Option Value) (fa : Addr) (o : Obj) (pm cd doc : Value) (a : Addr) (vs : List Value) (ns : List Int),
   Ground q loose [] XP w s₀ mg mb s₁.heap->YP w s₁.heap->
   s₁.heap.get? fa=some o->o.data= .func (docDef d.name d.params d.body d.scope pm cd doc)->s₁.heap.CodeRec cd d.name->mg d.name=some (.ref fa)->
   s₁.heap.get? a=some { cls:= .type "list",data:= .seq vs.toArray}->IntsAre vs ns->ns.length<=n->s₁.gens= #[]->
   codeAny (model l.prog w) callerA (.call (.ref fa) ⟨[.ref a],[]⟩) (λr s'=>r= .ok (.ret (.bool true))/\OldK s₁.heap s'.heap/\s'.os=s₁.os/\AllBare s'.gens) s₁):
  WalkO q loose XP YP l.row.toRowW d [] (λf vs=>PySem.call f vs):=by
 intro w s₀ s₁ mg mb G Y fa o pm cd doc dV kV ho hd hcd hD hmg hg args vals as hpre hlay hrd hwl hlo
 obtain rfl:dV= .none:=Dflts.none hD hdf
 obtain rfl:kV= .none:=Dflts.noKw hD
 obtain⟨a,vs,ns,rfl,rfl,hobj,hints,hlen⟩:=Oa hn hpre hwl
 refine enter_call (codeAny_mono (call w s₀ s₁ mg mb fa o pm cd doc a vs ns G Y ho (fd_plain hd) hcd hmg hobj hints hlen hg) λr s' hq=>?_)
 obtain⟨rfl,h2,h3,h4⟩:=hq
 exact⟨.inl ⟨.bool true,.bool true,[],rfl,λ_=>rfl,.bool true,Ob l _,λ_=>⟨List.Pairwise.nil,λ_ hm=>(nomatch hm)⟩⟩,h2,h3,h4⟩
section
variable {prog : Program} {w : World} {A : Around} {E : Value -> Shared -> Prop} {s : Shared} {K : Frag}
end
end Att
namespace L2
open PySem PySem.Spec PyProof.Rows
theorem JP:∀ {vs:List Value}{ns:List Int},IntsAre vs ns->Au (ns.map V.int) vs
 | _,_,.nil=> .nil
 | _,_,.cons n t h=> .cons ⟨t,rfl⟩ (JP h)
def Fz (H:Hp):Prop:=∀b,H b=none\/ ∃o xs,H b=some (.frz o (.lst xs))
theorem Oc {P:Program}{w:World}{K:PySem.W.Frag}{mg mb:Str->Option Value}{CX:B3}{k:Nat}{fa a:Addr}{fd:FuncData}{x:Str}{sp:Sp}{s₁:Shared}{vs:List Value}{ns:List Int}
  (KX:K.In s₁.heap) (hns:s₁.heap.Ns mainGlobals mg) (hb:s₁.heap.Ns builtinsNs mb) (hbb:∀x:Str,x≠ "__name__" ->mb x=bootBuiltins x) (hlim:s₁.heap.NoLimit) (hg:s₁.gens= #[])
  (ha:s₁.heap.get? a=some { cls:= .type "list",data:= .seq vs.toArray}) (hi:IntsAre vs ns) (hl:ns.length<=sizeLine) (hr:Bb k callerA)
  (F:∀base:Heap,K.In base->base.Ns mainGlobals mg->Cv P w K mg base CX k fa fd [x] sp) (hbind:∀(s:Shared) (u:Value),BindsTo s fd ⟨[u],[]⟩ [(x,u)])
  (hsp:∀H:Hp,Fz H->An K H a (ns.map V.int)->sp [.ref a] H (λv _=>v= .bl true) λ_ _ _=>False)
  (hCX:∀H e s',CX [] H s₁ (λ_ _ _=>False) e s'->False):
  codeAny (model P w) callerA (.call (.ref fa) ⟨[.ref a],[]⟩) (λr s'=>r= .ok (.ret (.bool true))/\OldK s₁.heap s'.heap/\s'.os=s₁.os/\AllBare s'.gens) s₁:=by
 have rv:=JP hi
 have lenV:=hi.length
 --from an abstract heap in which nothing but the script may be tracked
 have core:∀H:Hp,Fz H->An K H a (ns.map V.int)->HOk P w H s₁.heap->(∀b,H b≠none->b=a)->(H a≠none->K.lookup a=none)->
   codeAny (model P w) callerA (.call (.ref fa) ⟨[.ref a],[]⟩) (λr s'=>r= .ok (.ret (.bool true))/\OldK s₁.heap s'.heap/\s'.os=s₁.os/\AllBare s'.gens) s₁:=by
  intro H hO hS hok hA hK
  have base_of:∀ {b:Addr}{o:Obj},s₁.heap.get? b=some o->H b=none->(CU s₁.heap H).get? b=some o:=λe n=>MS e n
  have noA:∀ {b:Addr}{o:Obj}{es:Array DictEntry}{ep:Nat},s₁.heap.get? b=some o->o.data= .dict es ep->H b=none:=λ{b o es ep} e d=>by
   cases q:H b with
   | none=>rfl
   | some u=>
    have e':b=a:=hA b (by rw [q];simp)
    subst e'
    rw [ha] at e;cases e
    have d':Data.seq vs.toArray _=Data.dict es ep:=d
    cases d'
  have nsK:∀ {b:Addr}{m:Str->Option Value},s₁.heap.Ns b m->(CU s₁.heap H).Ns b m:=λ{b m} ⟨o,es,ep,e,d,r⟩=>⟨o,es,ep,base_of e (noA e d),d,r⟩
  have hKb:K.In (CU s₁.heap H):=λb o e=>base_of (KX b o e) (by
   cases q:H b with
   | none=>rfl
   | some u=>
    have e':b=a:=hA b (by rw [q];simp)
    subst e'
    rw [hK (by rw [q];simp)] at e;cases e)
  have hM:Mod K mg (CU s₁.heap H):=⟨hKb,nsK hns,⟨mb,nsK hb,hbb⟩,let ⟨mc,h1,h2⟩:=hlim;⟨mc,nsK h1,h2⟩⟩
  have e0:Ea P w K mg (CU s₁.heap H) callerA [] s₁ H:=⟨rfl,hM,λb o e=>MT e,Nat.le_of_eq (MR _ _),trivial,λb hb=>absurd (show b∈([]:List Addr) from hb) (by simp),hok,.of_eq hg⟩
  refine codeAny_mono ((F _ hKb (nsK hns)).run callerA [] s₁ H ⟨[.ref a],[]⟩ [.ref a] [.ref a] _ _ hr e0 (hbind s₁ (.ref a)) (.cons rfl .nil) (hsp H hO hS)) λr s' h=>?_
  cases r with
  | error e=>exact(hCX H e s' h).elim
  | ok fl=>
   cases fl with
   | next=>exact False.elim h
   | brk=>exact False.elim h
   | cont=>exact False.elim h
   | ret u=>
    obtain⟨v,H',os,bare,un,hok',r',q⟩:=h
    have q':v= .bl true:=q
    subst q'
    obtain rfl:u=Value.bool true:=r'
    refine⟨rfl,OldK.of_keep λb o e=>?_,os,bare⟩
    cases q:H b with
    | none=>exact un.keep b o e q (by intro z;exact absurd (show b∈([]:List Addr) from z) (by simp)) (by simp)
    | some u=>
     rcases hO b with z | ⟨ob,xs,z⟩
     ·rw [q] at z;cases z
     ·have z2:=un.frzs b ob _ z
      obtain⟨e1,_⟩:=hok b _ z
      obtain⟨e2,_⟩:=hok' b _ z2
      rw [e] at e1;cases e1
      exact e2
 cases hk:K.lookup a with
 | some o=>
  --the script is one of the module's own objects
  have e:=KX a o hk
  rw [ha] at e
  cases e
  refine core (λ_=>none) (λ_=> .inl rfl) (.inr ⟨_,vs.toArray,_,hk,rfl,rfl,rfl,by rw [List.size_toArray,lenV];exact hl,by simpa using rv⟩) (λb u z=>by have z':(none:Option HO)=some u:=z;cases z') (λb z=>absurd rfl z) λz=>absurd rfl z
 | none=>
  refine core (λb=>if b=a then some (.frz { cls:= .type "list",data:= .seq vs.toArray} (.lst (ns.map V.int))) else none) (λb=>?_) (.inl (.inr ⟨{ cls:= .type "list",data:= .seq vs.toArray},if_pos rfl⟩)) (λb u z=>?_) (λb z=>?_) λ_=>hk
  ·by_cases hb:b=a
   ·exact .inr ⟨_,_,if_pos hb⟩
   ·exact .inl (if_neg hb)
  ·by_cases hb:b=a
   ·have z':=(if_pos hb).symm.trans z
    cases z'
    subst hb
    exact⟨ha,by rw [List.length_map];exact hl,vs,_,rv,ha⟩
   ·have z':=(if_neg hb).symm.trans z
    cases z'
  ·by_cases hb:b=a
   ·exact hb
   ·exact absurd (if_neg hb) z
end L2
namespace L2
open PySem PySem.Spec PyProof.Rows
theorem Od {l:PySem.W.OpenLaw}{n k:Nat}{q:Program}{loose:List Str}{XP:(Str->Option Value)->Heap->Prop}{YP:World->Heap->Prop}{d:DefRec}{K:Params->PySem.W.Frag}{CX:World->B3}{sp:World->Sp}{x:Str}
  (hn:l.most=some n) (hn2:n<=sizeLine) (hdf:d.params.defaults=[]) (hr:Bb k callerA)
  (hY:∀(w:World) (h:Heap),YP w h->(K w.params).In h)
  (F : ∀ (w : World) (mg : Str -> Option Value) (fa : Addr) (h : Heap), (K w.params).In h -> h.Ns mainGlobals mg -> mg d.name = some (.ref fa) ->
   ∃fd:FuncData,(∀(s:Shared) (u:Value),BindsTo s fd ⟨[u],[]⟩ [(x,u)])/\
    ∀base:Heap,(K w.params).In base->base.Ns mainGlobals mg->Cv l.prog w (K w.params) mg base (CX w) k fa fd [x] (sp w))
  (hsp:∀(w:World) (H:Hp) (a:Addr) (ns:List Int),ns.length<=n->Fz H->An (K w.params) H a (ns.map V.int)->sp w [.ref a] H (λv _=>v= .bl true) λ_ _ _=>False)
  (hCX:∀(w:World) (H:Hp) (s:Shared) (e:Value) (s':Shared),CX w [] H s (λ_ _ _=>False) e s'->False):
  PySem.W.WalkO q loose XP YP l.row.toRowW d [] (λf vs=>PySem.call f vs):=by
 refine Att.attach_call hn hdf λw s₀ s₁ mg mb fa o pm cd doc a vs ns G Y ho hd hcd hmg hobj hints hlen hg=>?_
 have KX:=hY w _ Y
 obtain⟨fd,hb,hF⟩:=F w mg fa _ KX G.T.g hmg
 exact Oc KX G.T.g G.T.b G.T.builtins G.T.nolimit hg hobj hints (Nat.le_trans hlen hn2) hr hF hb (λH hO hS=>hsp w H a ns hlen hO hS) λH e s'=>hCX w H s₁ e s'
theorem walk_ofK {l:PySem.W.OpenLaw}{n k:Nat}{q:Program}{loose:List Str}{XP:(Str->Option Value)->Heap->Prop}{YP:World->Heap->Prop}{d:DefRec}{K:Params->PySem.W.Frag}{CX:B3}{sp:PySem.W.Frag->Sp}{x:Str}
  (hn:l.most=some n) (hn2:n<=sizeLine) (hdf:d.params.defaults=[]) (hr:Bb k callerA)
  (hY:∀(w:World) (h:Heap),YP w h->(K w.params).In h)
  (F : ∀ (w : World) (mg : Str -> Option Value) (fa : Addr) (h : Heap), (K w.params).In h -> h.Ns mainGlobals mg -> mg d.name = some (.ref fa) ->
   ∃fd:FuncData,(∀(s:Shared) (u:Value),BindsTo s fd ⟨[u],[]⟩ [(x,u)])/\
    ∀base:Heap,(K w.params).In base->base.Ns mainGlobals mg->Cv l.prog w (K w.params) mg base CX k fa fd [x] (sp (K w.params)))
  (hsp:∀(K:PySem.W.Frag) (H:Hp) (a:Addr) (ns:List Int),ns.length<=n->Fz H->An K H a (ns.map V.int)->sp K [.ref a] H (λv _=>v= .bl true) λ_ _ _=>False)
  (hCX:∀(H:Hp) (s:Shared) (e:Value) (s':Shared),CX [] H s (λ_ _ _=>False) e s'->False):
  PySem.W.WalkO q loose XP YP l.row.toRowW d [] (λf vs=>PySem.call f vs):=
 Od (K:=K) (CX:=λ_=>CX) (sp:=λw=>sp (K w.params)) hn hn2 hdf hr hY F (λw H a ns h1 h2 h3=>hsp (K w.params) H a ns h1 h2 h3) λ_ H s e s'=>hCX H s e s'
end L2
namespace L2
open PySem PySem.Spec PyProof.Rows
variable {qual : Str} {fd : FuncData} {ps : List Str} {H H' : Hp}
def BU (s:Stmt):Arguments:=match s with
 | .FunctionDef _ a _ _ _ _ _ _ _ _=>a
 | _=> { posonlyargs:=[],args:=[],vararg:=none,kwonlyargs:=[],kw_defaults:=[],kwarg:=none,defaults:=[]}
def BD (s:Stmt):List Stmt:=match s with
 | .FunctionDef _ _ b _ _ _ _ _ _ _=>b
 | _=>[]
def Aw (s:Stmt):Scope:=match s with
 | .FunctionDef _ _ _ _ _ _ sc _ _ _=>sc
 | _=> { kind:= .function,names:=[],isGenerator:=false,isCoroutine:=false}
abbrev CX0:B3:=λ_ _ _ _ _ _=>False
abbrev E0:XK:=λ_ _ _=>False
theorem Oe {X:Cx}:HB CX0 X E0:=λ_ _ _ _ _ _ _ h=>h.elim
structure DP (K:PySem.W.Frag) (x qual:Str) (st:Stmt) (f:Addr) (fd:FuncData):Prop where
 ex:∃(oc:Value) (od:Option Addr) (kV doc pm:Value) (an:Option Addr) (cdv ct:Value) (osl:Array (Option Value)),
  fd=PySem.W.fnOf x qual (BU st) (BD st) (Aw st) .none kV doc pm an cdv ct/\K.lookup f=some ⟨oc,od,.func fd,osl⟩/\PySem.W.codeIn K cdv qual=true
 kp:PySem.W.keepIn K (.ref f)=true
section
variable {P : Program} {w : World} {K : PySem.W.Frag} {mg : Str -> Option Value} {base : Heap}
theorem DP.ok {x:Str}{st:Stmt}{f:Addr}{N:List Str}{k:Nat}{sp:Sp} (F:DP K x qual st f fd) (S:Ay N ps (Aw st)) (len:∀vs H Q E,sp vs H Q E->vs.length=ps.length)
  (hbody : ∀ (cdv : Value) (A : Around) (outer : List Env) (s : Shared) (H : Hp) (vs : List V) (Q : VK) (E : XK), Bb k (A.deeper (envOfC qual (Aw st) s.heap.objs.size f cdv)) -> sp vs H Q E ->
   ∃t,PSs (DN CX0 P w K mg base N qual (Aw st) f cdv A outer s H E).nox (BD st) t/\t { nx:=λ_ H'=>Q .non H',rt:=Q} (start N vs) H):Cv P w K mg base CX0 (k+1) f fd ps sp:=by
 obtain⟨oc,od,kV,doc,pm,an,cdv,ct,osl,rfl,lk,hcd⟩:=F.ex
 refine ND lk hcd S len λA outer s H vs Q E hr hsp=>?_
 obtain⟨t,h,q⟩:=hbody cdv A outer s H vs Q E hr hsp
 exact⟨t,h.nox,q⟩
theorem DP.binds {x:Str}{st:Stmt}{f:Addr} (F:DP K x qual st f fd)
  (h:∀(kV doc pm:Value) (an:Option Addr) (cdv ct:Value) (us:List Value),us.length=ps.length->bindArgs (PySem.W.fnOf x qual (BU st) (BD st) (Aw st) .none kV doc pm an cdv ct) ⟨us,[]⟩=pure (ps.zip us)):Binds K fd ps []:=by
 obtain⟨oc,od,kV,doc,pm,an,cdv,ct,osl,rfl,lk,hcd⟩:=F.ex
 exact .all (h kV doc pm an cdv ct)
theorem HG {x:Str}{st:Stmt}{f:Addr}{oc:Value}{od an:Option Addr}{osl:Array (Option Value)}{kV doc pm cdv ct:Value} (l:K.lookup f=some ⟨oc,od,.func (PySem.W.fnOf x qual (BU st) (BD st) (Aw st) .none kV doc pm an cdv ct),osl⟩)
  (c:PySem.W.codeIn K cdv qual=true) (k:PySem.W.keepIn K (.ref f)=true):DP K x qual st f (PySem.W.fnOf x qual (BU st) (BD st) (Aw st) .none kV doc pm an cdv ct):=⟨⟨oc,od,kV,doc,pm,an,cdv,ct,osl,rfl,l,c⟩,k⟩
end
section
variable {X : Cx}
theorem pv (i:Nat) {x:Str}{pos:Pos} (hN:X.N[i]? =some x:=by rfl) (hv:ED X.env.scope x:=by first | exact Or.inl rfl | exact Or.inr (Or.inl rfl) | exact Or.inr (Or.inr rfl)) (hd:(x==("__debug__" :Str))=false:=by decide)
  (hcd:(x==("__classdict__" :Str))=false:=by decide):PE X (.Name x pos) (Jg i):=Jh hN hv hd hcd
end
def Ab (H H':Hp):Prop:=∀b o,H b=some o->H' b=some o
theorem Ab.refl (H:Hp):Ab H H:=λ_ _ h=>h
theorem Ab.trans {H1 H2:Hp} (a:Ab H H1) (b:Ab H1 H2):Ab H H2:=λc o h=>b c o (a c o h)
theorem Ab.free (e:Ab H H') {l:Addr} (h:H' l=Option.none):H l=Option.none:=by
 cases q:H l with
 | none=>rfl
 | some o=>
  rw [e l o q] at h
  cases h
theorem Ab.seq {K:PySem.W.Frag}{a:Addr}{xs:List V} (e:Ab H H') (h:An K H a xs):An K H' a xs:=by
 rcases h with(h | ⟨o,h⟩) | h
 ·exact .inl (.inl (e _ _ h))
 ·exact .inl (.inr ⟨o,e _ _ h⟩)
 ·exact .inr h
end L2
end
section
namespace L2
open PySem PySem.Spec PyProof.Rows
def Bf (cs:List (Str×Addr)):List (Str×NameKind)->List (Str×Addr)->List (Str×Addr)
  | [],acc=>acc
  | (n,k)::r,acc=>if k== .free then(match cs.lookup n with | some a=>Bf cs r ((n,a)::acc) | none=>Bf cs r acc) else Bf cs r acc
theorem HH {env:Env}:∀(names:List (Str×NameKind)) (acc:List (Str×Addr)),(∀y∈names,y.2= .free->∃c,env.cells.lookup y.1=some c)->
    (forIn names acc (fun(p:Str×NameKind) (cs:List (Str×Addr))=>do
      if (p.2==NameKind.free)=true then do
        let a<-cellOf env p.1
        pure (ForInStep.yield ((p.1,a)::cs))
      else pure (ForInStep.yield cs)):Sem (List (Str×Addr)))=pure (Bf env.cells names acc)
  | [],acc,_=>rfl
  | (n, k) :: r, acc, h => by
    rw [List.forIn_cons]
    by_cases hk:(k==NameKind.free)=true
    . obtain⟨c,hc⟩:=h (n,k) List.mem_cons_self (by simpa using hk)
      have hc':env.cells.lookup n=some c:=hc
      simp only [hk,if_true,cellOf,hc',Bf]
      exact HH r _ λy hy=>h y (List.mem_cons_of_mem _ hy)
    . have hk':(k==NameKind.free)=false:=by simpa using hk
      simp only [hk',Bool.false_eq_true,if_false,Bf]
      exact HH r _ λy hy=>h y (List.mem_cons_of_mem _ hy)
theorem JQ {env:Env}{scope:Scope} (h:∀y∈scope.names,y.2= .free->∃c,env.cells.lookup y.1=some c):closureFor scope env=pure (Bf env.cells scope.names []):=by
 have q:=HH (env:=env) scope.names [] h
 unfold closureFor
 simp only []
 have e:(forIn scope.names ([]:List (Str×Addr)) (fun(p:Str×NameKind) (cs:List (Str×Addr))=>do
   if (p.2==NameKind.free)=true then do
    let a<-cellOf env p.1
    pure (ForInStep.yield ((p.1,a)::cs))
   else pure (ForInStep.yield cs)):Sem (List (Str×Addr))) >>=(λcs=>pure cs)=pure (Bf env.cells scope.names []):=by rw [q];rfl
 exact e
theorem DQ {cs:List (Str×Addr)}{x:Str}{c:Addr}:∀(names:List (Str×NameKind)) (acc:List (Str×Addr)),(Bf cs names acc).lookup x=some c->cs.lookup x=some c\/acc.lookup x=some c
  | [],_,h=> .inr h
  | (n, k) :: r, acc, h => by
    unfold Bf at h
    split at h
    . cases hc:cs.lookup n with
      | none=>rw [hc] at h;exact DQ r acc h
      | some a =>
        rw [hc] at h
        rcases DQ r _ h with q | q
        . exact .inl q
        . rw [List.lookup_cons] at q
          cases hx:x==n with
          | true=>rw [hx] at q;rw [beq_iff_eq.mp hx,hc];exact .inl q
          | false=>rw [hx] at q;exact .inr q
    . exact DQ r acc h
theorem FA {cs:List (Str×Addr)}{x:Str}{c:Addr} (hc:cs.lookup x=some c):∀(names:List (Str×NameKind)) (acc:List (Str×Addr)),acc.lookup x=some c->(Bf cs names acc).lookup x=some c
  | [],_,h=>h
  | (n, k) :: r, acc, h => by
    unfold Bf
    split
    . cases hn:cs.lookup n with
      | none=>exact FA hc r acc h
      | some a =>
        refine FA hc r _ ?_
        rw [List.lookup_cons]
        cases hx:x==n with
        | true=>rw [beq_iff_eq.mp hx,hn] at hc;exact hc
        | false=>exact h
    . exact FA hc r acc h
theorem EJ {cs:List (Str×Addr)}{x:Str}{c:Addr} (hc:cs.lookup x=some c):∀(names:List (Str×NameKind)) (acc:List (Str×Addr)),(x,NameKind.free)∈names->(Bf cs names acc).lookup x=some c
  | [],_,h=>nomatch h
  | (n, k) :: r, acc, h => by
    unfold Bf
    rcases List.mem_cons.mp h with e | h
    . cases e
      simp only [beq_self_eq_true,if_true,hc]
      exact FA hc r _ (by simp [List.lookup_cons])
    . split
      . cases hn:cs.lookup n with
        | none=>exact EJ hc r acc h
        | some a=>exact EJ hc r _ h
      . exact EJ hc r acc h
theorem Ec {x:Str}{c:Addr}:∀(names:List (Str×NameKind)) (n:Nat) (acc:List (Str×Addr)),(cellsFrom n names acc).lookup x=some c->n<=c\/acc.lookup x=some c
  | [],_,_,h=> .inr h
  | (y, k) :: r, n, acc, h => by
    unfold cellsFrom at h
    split at h
    . rcases Ec r (n+1) _ h with q | q
      . exact .inl (by omega)
      . rw [List.lookup_cons] at q
        cases hx:x==y with
        | true=>rw [hx] at q;cases q;exact .inl (Nat.le_refl _)
        | false=>rw [hx] at q;exact .inr q
    . exact Ec r n acc h
theorem HI {x:Str}{c:Addr}{lo:Nat}:∀(names:List (Str×NameKind)) (n:Nat) (acc:List (Str×Addr)),lo<=n->((x,NameKind.cell)∈names\/ ∀c,acc.lookup x=some c->lo<=c)->(cellsFrom n names acc).lookup x=some c->lo<=c
  | [],_,_,_,hm,h=>hm.elim (λz=>nomatch z) λz=>z c h
  | (y, k) :: r, n, acc, hl, hm, h => by
    unfold cellsFrom at h
    split at h
    . rename_i hk
      refine HI r (n+1) _ (by omega) ?_ h
      by_cases hx:x=y
      . refine .inr λc' q=>?_
        rw [List.lookup_cons,hx,beq_self_eq_true] at q
        cases q;exact hl
      . rcases hm with hm | hm
        . rcases List.mem_cons.mp hm with e | hm
          . cases e;exact absurd rfl hx
          . exact .inl hm
        . refine .inr λc' q=>hm c' ?_
          rw [List.lookup_cons,beq_eq_false_iff_ne.mpr hx] at q
          exact q
    . rename_i hk
      refine HI r n acc hl ?_ h
      rcases hm with hm | hm
      . rcases List.mem_cons.mp hm with e | hm
        . cases e;exact absurd rfl hk
        . exact .inl hm
      . exact .inr hm
theorem HJ {x:Str}{c:Addr}:∀(names:List (Str×NameKind)) (n:Nat) (acc:List (Str×Addr)),(x,NameKind.cell) ∉ names->acc.lookup x=some c->(cellsFrom n names acc).lookup x=some c
  | [],_,_,_,h=>h
  | (y, k) :: r, n, acc, hm, h => by
    have hm':(x,NameKind.cell) ∉ r:=λz=>hm (List.mem_cons_of_mem _ z)
    unfold cellsFrom
    split
    . rename_i hk
      refine HJ r (n+1) _ hm' ?_
      rw [List.lookup_cons]
      cases hx:x==y with
      | true =>
        have e1:k=NameKind.cell:=by simpa using hk
        exact absurd (by rw [beq_iff_eq.mp hx,e1];exact List.mem_cons_self) hm
      | false=>exact h
    . exact HJ r n acc hm' h
theorem HK {x:Str}:∀(names:List (Str×NameKind)) (n:Nat) (acc:List (Str×Addr)),((x,NameKind.cell)∈names\/ ∃c,acc.lookup x=some c)->∃c,(cellsFrom n names acc).lookup x=some c
  | [],_,_,hm=>hm.elim (λz=>nomatch z) λz=>z
  | (y, k) :: r, n, acc, hm => by
    unfold cellsFrom
    split
    . rename_i hk
      refine HK r (n+1) _ ?_
      by_cases hx:x=y
      . exact .inr ⟨n,by rw [hx,List.lookup_cons,beq_self_eq_true]⟩
      . rcases hm with hm | ⟨c,hm⟩
        . rcases List.mem_cons.mp hm with e | hm
          . cases e;exact absurd rfl hx
          . exact .inl hm
        . exact .inr ⟨c,by rw [List.lookup_cons,beq_eq_false_iff_ne.mpr hx];exact hm⟩
    . rename_i hk
      refine HK r n acc ?_
      rcases hm with hm | hm
      . rcases List.mem_cons.mp hm with e | hm
        . cases e;exact absurd rfl hk
        . exact .inl hm
      . exact .inr hm
theorem HL:∀(names:List (Str×NameKind)) (n:Nat) (acc:List (Str×Addr)),(∀x c,acc.lookup x=some c->c<n)->(∀x y c,acc.lookup x=some c->acc.lookup y=some c->x=y)->
    ∀x y c,(cellsFrom n names acc).lookup x=some c->(cellsFrom n names acc).lookup y=some c->x=y
  | [],_,_,_,hi=>hi
  | (z, k) :: r, n, acc, hb, hi => by
    unfold cellsFrom
    split
    . refine HL r (n+1) _ (λx c q=>?_) λx y c q q'=>?_
      . rw [List.lookup_cons] at q
        cases hx:x==z with
        | true=>rw [hx] at q;cases q;exact Nat.lt_succ_self _
        | false=>rw [hx] at q;exact Nat.lt_succ_of_lt (hb x c q)
      . rw [List.lookup_cons] at q q'
        cases hx:x==z with
        | true =>
          rw [hx] at q;cases q
          cases hy:y==z with
          | true=>rw [beq_iff_eq.mp hx,beq_iff_eq.mp hy]
          | false=>rw [hy] at q';exact absurd (hb y _ q') (Nat.lt_irrefl _)
        | false =>
          rw [hx] at q
          cases hy:y==z with
          | true=>rw [hy] at q';cases q';exact absurd (hb x _ q) (Nat.lt_irrefl _)
          | false=>rw [hy] at q';exact hi x y c q q'
    . exact HL r n acc hb hi
theorem HM:∀(names:List (Str×NameKind)) (h:Heap) (acc:List (Str×Addr)) {x:Str}{c:Addr},(cellsFrom h.objs.size names acc).lookup x=some c->(pushCells h names).IsCell c none\/acc.lookup x=some c
  | [],_,_,_,_,q=> .inr q
  | (z, k) :: r, h, acc, x, c, q => by
    unfold cellsFrom at q
    unfold pushCells
    split at q
    . rename_i hk
      rw [if_pos hk]
      have e:(h.push { cls:= .type "cell",data:= .cell none}).objs.size=h.objs.size+1:=Heap.size_push ..
      rw [<-e] at q
      rcases HM r _ _ q with q | q
      . exact .inl q
      . rw [List.lookup_cons] at q
        cases hx:x==z with
        | true =>
          rw [hx] at q;cases q
          refine .inl ?_
          have w:(h.push { cls:= .type "cell",data:= .cell none}).IsCell h.objs.size none:=⟨_,Heap.get?_push_size _ rfl,rfl⟩
          exact w.keeps (pushCells_keeps r _)
        | false=>rw [hx] at q;exact .inr q
    . rename_i hk
      rw [if_neg hk]
      exact HM r h acc q
def HN (scope:Scope) (env:Env) (C:Addr):Env:=
  { scope:=relabel scope env,locals:=C,globals:=env.globals,cells:=cellsFrom (C+1) scope.names (Bf env.cells scope.names []),qual:=env.qual,func:=none,code:=env.code,frame:=env.frame,builtins:=env.builtins}
theorem JR {M:Model}{A:Around}{E:Value->Shared->Prop}{s:Shared}{scope:Scope}{env:Env}{cl:List (Str×Addr)}{Q:Env->Shared->Prop}
    (h:Q { scope:=scope,locals:=s.heap.objs.size,globals:=env.globals,cells:=cellsFrom (s.heap.objs.size+1) scope.names cl,qual:=env.qual,func:=none,code:=env.code,frame:=env.frame,builtins:=env.builtins}
      { s with heap:=pushCells (s.heap.push { cls:= .type "dict",data:= .dict #[]}) scope.names}):
    wpAny M A (newFunctionEnv scope env.globals cl [] env.qual none .none (some env)) Q E s:=by
  have top:({ s with heap:=s.heap.push { cls:= .type "dict",data:= .dict #[]}}:Shared).heap.objs.size=s.heap.objs.size+1:=Heap.size_push ..
  rw [<-top] at h
  unfold newFunctionEnv
  simp only [Option.isSome_some,if_true]
  exact wpAny_bind (wpAny_alloc (wpAny_bind (wpAny_layCells _ (λn k cs=>by by_cases c:(k==NameKind.cell)=true<;>simp [c]) _ _ _ _ (wpAny_bind (wpAny_pure (wpAny_pure h))))))
structure AS (sc:Scope) (N:List Str) (scope:Scope) (N':List Str) (cap:List (Option Nat)):Prop where
 kind:scope.kind= .function
 free:∀y∈scope.names,y.2= .free->sc.names.lookup y.1=some .cell\/sc.names.lookup y.1=some .free
 len:cap.length=N'.length
 capt:∀(i j:Nat),cap[i]? =some (some j)->∃x:Str,N'[i]? =some x/\N[j]? =some x/\(x,NameKind.free)∈scope.names/\(x,NameKind.cell) ∉ scope.names
 names:∀y∈scope.names,y.2= .local ->scope.names.lookup y.1=some .local
 own:∀y∈scope.names,scope.names.lookup y.1=some y.2
def JS (sc:Scope) (N:List Str) (scope:Scope) (N':List Str) (cap:List (Option Nat)):Bool:=
  scope.kind== .function &&(scope.names.all λy=>y.2 != .free || sc.names.lookup y.1==some .cell || sc.names.lookup y.1==some .free) && cap.length==N'.length &&
    ((List.range cap.length).all λi => match cap[i]? with
      | some (some j) => (match N'[i]?, N[j]? with
        | some x,some y=>x==y && scope.names.any (λz=>z.1==x && z.2== .free) && scope.names.all (λz=> !(z.1==x && z.2== .cell))
        | _,_=>false)
      | _=>true) && scope.names.all λy=>scope.names.lookup y.1==some y.2
theorem AS.of {sc:Scope}{N:List Str}{scope:Scope}{N':List Str}{cap:List (Option Nat)} (h:JS sc N scope N' cap=true):AS sc N scope N' cap:=by
 unfold JS at h
 simp only [Bool.and_eq_true] at h
 obtain⟨⟨⟨⟨h1,h2⟩,h3⟩,h4⟩,h5⟩:=h
 have own:∀y∈scope.names,scope.names.lookup y.1=some y.2:=λy hy=>by
  have:=List.all_eq_true.mp h5 y hy
  simpa using this
 refine⟨by simpa using h1,λy hy hf=>?_,by simpa using h3,λi j e=>?_,λy hy hl=>by rw [own y hy,hl],own⟩
 ·have:=List.all_eq_true.mp h2 y hy
  rw [hf] at this
  simpa using this
 ·have hi:i<cap.length:=(List.getElem?_eq_some_iff.mp e).1
  have:=List.all_eq_true.mp h4 i (List.mem_range.mpr hi)
  rw [e] at this
  dsimp only at this
  cases hx:N'[i]? with
  | none=>rw [hx] at this;simp at this
  | some x=>
   cases hy:N[j]? with
   | none=>rw [hx,hy] at this;simp at this
   | some y=>
    rw [hx,hy] at this
    simp only [Bool.and_eq_true] at this
    obtain⟨⟨t1,t2⟩,t3⟩:=this
    have e1:x=y:=by simpa using t1
    subst e1
    obtain⟨z,hz,t⟩:=List.any_eq_true.mp t2
    simp only [Bool.and_eq_true] at t
    have z1:z.1=x:=by simpa using t.1
    have z2:z.2= .free:=by simpa using t.2
    have ez:z=(x,NameKind.free):=by rw [<-z1,<-z2]
    refine⟨x,rfl,rfl,ez ▸ hz,λhm=>?_⟩
    have:=List.all_eq_true.mp t3 _ hm
    simp at this
def AM (cap:List (Option Nat)) (σ:St):St:=cap.map λo=>match o with | some j=>(match σ[j]? with | some v=>v | none=>none) | none=>none
def BN (X:Cx) (cs:List Expr) (t:TT):Prop:=
 ∀(pins:List (Addr×Obj)) (s:Shared) (σ:St) (H:Hp) (Q:Bool->Hp->Prop),Ac X pins σ H s->t σ H Q->
  wpAny (model X.prog X.w) X.A (forIn cs true λc r=>if r=true then do let ok<-isTrue c X.env (eval c X.env);pure (ForInStep.yield ok) else pure (ForInStep.yield r)) (TP X pins σ Q) X.xe s
def Of:TT:=λ_ H Q=>Q true H
theorem Bq {X:Cx}:BN X [] Of:=λ_ _ σ H Q I h=>wpAny_tests_nil ⟨H,I,h⟩
theorem FB {X:Cx}{c:Expr}{t:TT} (h:PT X c t):BN X [c] t:=λpins s σ H Q I q=>wpAny_tests_one (h pins s σ H Q I q)
def AJ (X:Cx) (N':List Str) (scope:Scope) (s:Shared) (H:Hp) (ex:List Addr) (C:Addr):Cx:=
  { X with N:=N',s₀:=s,H₀:=H,env:=HN scope X.env C,outer:=X.stack,ex:=ex,fn:=λx=>scope.names.any λz=>z.1==x && z.2== .cell,pn:=[],xe:=λ_ _=>False}
theorem FC {env:Env}{x:Str}:∀(names:List (Str×NameKind)),(names.map fun(n,k)=>if (k==NameKind.free && env.scope.kind== .function && env.kindOf n==some .cell) then(n,NameKind.cell) else(n,k)).lookup x=
    (names.lookup x).map λk=>if (k==NameKind.free && env.scope.kind== .function && env.kindOf x==some .cell) then NameKind.cell else k
  | []=>rfl
  | (n, k) :: r => by
    have ih:=FC (env:=env) (x:=x) r
    show List.lookup x ((if (k==NameKind.free && env.scope.kind== .function && env.kindOf n==some .cell)=true then(n,NameKind.cell) else(n,k))::_)=_
    cases hx:x==n with
    | true =>
      have e:x=n:=beq_iff_eq.mp hx
      subst e
      split<;>simp_all [List.lookup_cons]
    | false =>
      have e:(List.lookup x ((n,k)::r))=r.lookup x:=by rw [List.lookup_cons,hx]
      rw [e,<-ih]
      split<;>simp [List.lookup_cons,hx]
section
variable {X : Cx} {pins : List (Addr × Obj)} {σ : St} {H : Hp} {s : Shared} {scope : Scope} {N' : List Str} {cap : List (Option Nat)} {fp : List Addr}
theorem Og (I:Ac X pins σ H s) (B:AS X.env.scope X.N scope N' cap) (hf:∀b∈fp,Ba X pins H b) (hlt:∀b∈fp,b<s.heap.objs.size) {C:Addr} (hC:s.heap.objs.size<=C):
  (AJ X N' scope s H fp C).Ok:=by
 have clt:∀x c,X.env.cells.lookup x=some c->c<s.heap.objs.size:=λx c e=>let ⟨_,q⟩:=I.cell x c e;q.lt
 have acc:∀x c,(Bf X.env.cells scope.names []).lookup x=some c->X.env.cells.lookup x=some c:=λx c e=>(DQ _ _ e).elim id λz=>nomatch z
 refine⟨I.ok.mod,B.kind,I.ok.glob,I.ok.blt,hC,λx y c h1 h2=>?_,λx hx=>?_,λx c hx h=>?_,I.ok.hd,I.ok.frames,.inl rfl,λb hb=>⟨?_,λx c h e=>?_⟩,I.bs,Nat.le_trans I.ok.bsz I.sz,λb o e hb=>?_,λb hb z=>?_,I.stack,I.stkFree⟩
 ·exact HL scope.names (C+1) _ (λx c e=>Nat.lt_succ_of_lt (Nat.lt_of_lt_of_le (clt x c (acc x c e)) hC)) (λx y c e e'=>I.ok.inj x y c (acc x c e) (acc y c e')) x y c h1 h2
 ·have hx':(relabel scope X.env).names.lookup x=some .cell\/(relabel scope X.env).names.lookup x=some .free:=hx
  have hl:(scope.names.lookup x).isSome=true:=by
   unfold relabel at hx'
   rw [FC] at hx'
   cases q:scope.names.lookup x with
   | none=>rw [q] at hx';rcases hx' with z | z<;>cases z
   | some k=>rfl
  obtain⟨k,hk⟩:=Option.isSome_iff_exists.mp hl
  have hm:=PySem.mem_of_lookup hk
  refine HK scope.names (C+1) _ ?_
  cases k with
  | cell=>exact .inl hm
  | free=>
   refine .inr ?_
   obtain⟨c,hc⟩:=I.ok.has x (B.free _ hm rfl)
   exact⟨c,EJ hc _ _ hm⟩
  | _=>
   unfold relabel at hx'
   rw [FC,hk] at hx'
   rcases hx' with z | z<;>simp at z
 ·have hx':(scope.names.any λz=>z.1==x && z.2== .cell)=true:=hx
  obtain⟨z,hz,t⟩:=List.any_eq_true.mp hx'
  simp only [Bool.and_eq_true] at t
  have z1:z.1=x:=by simpa using t.1
  have z2:z.2= .cell:=by simpa using t.2
  have ez:z=(x,NameKind.cell):=by rw [<-z1,<-z2]
  have:=HI (lo:=C+1) scope.names (C+1) _ (Nat.le_refl _) (.inl (ez ▸ hz)) h
  exact Nat.le_trans hC (Nat.le_of_succ_le this)
 ·exact Nat.ne_of_lt (Nat.lt_of_lt_of_le (hlt b hb) hC)
 ·rcases Ec scope.names (C+1) _ h with q | q
  ·have:=hlt b hb
   rw [<-e] at this
   exact absurd (Nat.lt_of_lt_of_le this (Nat.le_trans hC (Nat.le_of_succ_le q))) (Nat.lt_irrefl _)
  ·exact(hf b hb).2.2.2.2.1 x c (acc x c q) e
 ·obtain⟨_,_,_,f3,_⟩:=hf b hb
  rcases f3 with f3 | f3
  ·exact I.ok.noex b o e f3
  ·exact absurd (Nat.lt_of_lt_of_le (Heap.lt_size e) (Nat.le_trans I.ok.bsz f3)) (Nat.lt_irrefl _)
 ·obtain⟨_,f1,f2,_⟩:=hf b hb
  rcases List.mem_cons.mp (I.stkSub b z) with q | q
  ·exact f1 q
  ·exact f2 q
theorem JT (I:Ac X pins σ H s) (B:AS X.env.scope X.N scope N' cap) (hf:∀b∈fp,Ba X pins H b) (hlt:∀b∈fp,b<s.heap.objs.size) {h3:Heap} (hk:∀b o,s.heap.get? b=some o->h3.get? b=some o) (hsz:s.heap.objs.size<=h3.objs.size):
  Ac (AJ X N' scope s H fp h3.objs.size) [] (AM cap σ) H { s with heap:=pushCells (h3.push { cls:= .type "dict",data:= .dict #[]}) scope.names}:=by
 have acc:∀x c,(Bf X.env.cells scope.names []).lookup x=some c->X.env.cells.lookup x=some c:=λx c e=>(DQ _ _ e).elim id λz=>nomatch z
 have hk3:∀b o,h3.get? b=some o->(pushCells (h3.push { cls:= .type "dict",data:= .dict #[]}) scope.names).get? b=some o:=λb o e=>pushCells_keeps _ _ b o (Heap.get?_push_of_some _ e)
 have hk4:∀b o,s.heap.get? b=some o->(pushCells (h3.push { cls:= .type "dict",data:= .dict #[]}) scope.names).get? b=some o:=λb o e=>hk3 b o (hk b o e)
 refine⟨Og I B hf hlt hsz,rfl,I.bare,Un.kept hk4,⟨λ_=>none,(Heap.Ns.new h3 (.type "dict")).keeps (pushCells_keeps _ _),λi x v h1 h2 h4=>?_⟩,λx c h=>?_,?_,λx c h=>?_,λp hp=>absurd (show p∈([]:List (Addr×Obj)) from hp) (by simp),I.hok.kept hk4,?_⟩
 ·have h2':(AM cap σ)[i]? =some (some v):=h2
  unfold AM at h2'
  rw [List.getElem?_map] at h2'
  cases q:cap[i]? with
  | none=>rw [q] at h2';cases h2'
  | some o=>
   rw [q] at h2'
   cases o with
   | none=>exact nomatch Option.some.inj h2'
   | some j=>
    have h2'':(match σ[j]? with | some v=>v | none=>none)=some v:=Option.some.inj h2'
    cases qs:σ[j]? with
    | none=>rw [qs] at h2'';cases h2''
    | some v'=>
     rw [qs] at h2''
     have hs:σ[j]? =some (some v):=by rw [qs];exact congrArg some h2''
     obtain⟨x',e1,e2,e3,e4⟩:=B.capt i j q
     have h1':N'[i]? =some x:=h1
     rw [h1'] at e1;cases e1
     have hcf:=B.free _ e3 rfl
     obtain⟨m,hn,hl⟩:=I.loc
     obtain⟨u,ru,lk⟩:=hl j x v e2 hs (hcf.elim (λz=> .inr (.inl z)) λz=> .inr (.inr z))
     refine⟨u,ru,?_⟩
     rcases lk with⟨lk,_⟩ | ⟨_,c,hc,ic⟩
     ·have lk':X.env.scope.names.lookup x=some .local :=lk
      have hcf':X.env.scope.names.lookup x=some .cell\/X.env.scope.names.lookup x=some .free:=hcf
      rw [lk'] at hcf';rcases hcf' with z | z<;>cases z
     ·refine .inr ⟨?_,c,HJ _ _ _ e4 (EJ hc _ _ e3),ic.keeps hk4⟩
      have:(relabel scope X.env).names.lookup x=some .cell\/(relabel scope X.env).names.lookup x=some .free:=by
       unfold relabel
       rw [FC,B.own _ e3]
       dsimp only [Option.map]
       split
       ·exact .inl rfl
       ·exact .inr rfl
      exact this
 ·have h':(cellsFrom (h3.objs.size+1) scope.names (Bf X.env.cells scope.names [])).lookup x=some c:=h
  have e:(h3.push { cls:= .type "dict",data:= .dict #[]}).objs.size=h3.objs.size+1:=Heap.size_push ..
  rw [<-e] at h'
  rcases HM _ _ _ h' with q | q
  ·exact⟨_,q⟩
  ·obtain⟨v,z⟩:=I.cell x c (acc x c q)
   exact⟨v,z.keeps hk4⟩
 ·exact I.hok.fresh hsz
 ·rcases Ec scope.names (h3.objs.size+1) _ h with q | q
  ·exact I.hok.fresh (Nat.le_trans hsz (Nat.le_of_succ_le q))
  ·exact I.freeC x c (acc x c q)
 ·show(AM cap σ).length=N'.length
  unfold AM
  rw [List.length_map]
  exact B.len
end
end L2
end
section
namespace L2
open PySem PySem.Spec PyProof.Rows
variable {E : Expr} {Y : Cx} {a : Addr} {PB : List (Addr × Obj)} {σ : St} {zs xs : List V} {H : Hp} {its : List Value} {te : TE} {tt : TT} {cap : List (Option Nat)} {Q : List V -> Hp -> Prop}
def Keep:St->St->Prop
 | [],[]=>True
 | none::r,_::r'=>Keep r r'
 | some v::r,o::r'=>o=some v/\Keep r r'
 | _,_=>False
theorem Keep.len:∀ {a b:St},Keep a b->a.length=b.length
 | [],[],_=>rfl
 | none::r,_::r',h=>by have h':Keep r r':=h;simp [Keep.len h']
 | some v::r,o::r',h=>by have h':o=some v/\Keep r r':=h;simp [Keep.len h'.2]
theorem Keep.get:∀ {a b:St}{i:Nat}{v:V},Keep a b->a[i]? =some (some v)->b[i]? =some (some v)
 | [],[],_,_,_,e=>by simp at e
 | none::r,_::r',0,v,h,e=>by simp at e
 | none::r,_::r',i+1,v,h,e=>by
  have h':Keep r r':=h
  simpa using Keep.get (i:=i) h' (by simpa using e)
 | some v::r,o::r',0,w,h,e=>by
  have h':o=some v/\Keep r r':=h
  simp at e
  simp [h'.1,e]
 | some v::r,o::r',i+1,w,h,e=>by
  have h':o=some v/\Keep r r':=h
  simpa using Keep.get (i:=i) h'.2 (by simpa using e)
def br (c:Bool) (A B:Prop):Prop:=(c=true->A)/\(c=false->B)
def HP (wi:TI) (cap:List (Option Nat)) (g:TG) (tt:TT) (te:TE):St->Hp->(List V->Hp->Prop)->Prop:=fun σ H Q=>wi σ H λJ H1=>
 ∃W:Nat->Nat->List V->Hp->Prop,(∃m,W 0 m [] H1)/\∀i m ys H,W i m ys H->
  (J.stop i H/\Q ys H)\/
  (J.go i H /\ ys.length < sizeLine /\ ∃ N : List V -> Hp -> Prop, (∀ ys' H', N ys' H' -> ∃ m', m' < m /\ W (i + 1) m' ys' H') /\ ∀ x H', J.yld i H x H' -> g x (AM cap σ) H' fun σ2 H2 => Keep (AM cap σ) σ2 /\ tt σ2 H2 λb H3 =>
   br b (te σ2 H3 λy H4=>N (ys++[y]) H4) (N ys H3))
structure FE (X:Cx) (pins:List (Addr×Obj)) (C:Addr) (H:Hp) (s:Shared):Prop where
 ns:∃m,s.heap.Ns C m
 free:H C=none
 loc:C≠X.env.locals
 sz:X.s₀.heap.objs.size<=C
 cell:∀x c,X.env.cells.lookup x=some c->c≠C
 pin:∀p∈X.pn++pins,p.1≠C
abbrev TB:=St->List V->Hp->(List V->Hp->Prop)->Prop
def EK (E:Expr) (d:Nat) (tg it:Expr) (ifs:List Expr) (body:Sem PySem.Fin) (itv acc:Value) (env:Env):Sem PySem.Fin:=do
  standAt it.pos
  let r<-pyNext itv
  match r with
   | none=>pure (Fin.done Flow.next)
   | some v=>do
    letOwnedTupleGo tg itv v
    assign tg env v
    let ok<-forIn ifs true λc r=>if r=true then do let ok<-PySem.isTrue c env (eval c env);pure (ForInStep.yield ok) else pure (ForInStep.yield r)
    if ok=true then body else again (Code.compLoop E d itv acc env)
def FF (E:Expr) (d:Nat) (elt:Expr) (itv acc:Value) (env:Env):Sem PySem.Fin:=do
  let _<-(do
   let x<-eval elt env
   let _<-call (Value.builtin "list.append") [acc,x]
   pure ())
  again (Code.compLoop E d itv acc env)
def HQ (E:Expr) (d:Nat) (it2:Expr) (itv acc:Value) (env:Env):Sem PySem.Fin:=do
  let x<-eval it2 env
  standAt it2.pos
  let x<-foldedSetIterable it2 env x
  let j<-holding [x] (pyIter x)
  let _<-runOwn (Code.compStart E (d+1) j acc env) env
  again (Code.compLoop E d itv acc env)
abbrev FG (M:Model) (A:Around) (E:Expr) (d:Nat) (itv acc:Value) (env:Env) (body:Sem PySem.Fin) (P:Shared->Prop) (s:Shared):Prop:=wpAny M A body (λfin s'=>fin= .again (.compLoop E d itv acc env)/\P s') (λ_ _=>False) s
section
variable {prog : Program} {w : World} {A : Around} {R : Result -> Shared -> Prop} {s : Shared} {e0 tg it elt it2 : Expr} {gs : List Comprehension} {ifs : List Expr} {sc : Scope} {ps : Pos} {itv acc : Value} {env : Env} {d : Nat} {body : Sem PySem.Fin} {P : Shared -> Prop}
theorem Oh (h:wpAny (model prog w) A (eval elt env) (λx s₄=>wpAny (model prog w) A (call (.builtin "list.append") [acc,x]) (λ_ s₅=>P s₅) (λ_ _=>False) s₄) (λ_ _=>False) s):FG (model prog w) A E d itv acc env (FF E d elt itv acc env) P s:=
 wpAny_bind (wpAny_bind (wpAny_mono h (λx s₄ h₄=>wpAny_bind (wpAny_mono h₄ (λ_ s₅ h₅=>wpAny_pure (wpAny_pure ⟨rfl,h₅⟩)) λ_ _ h'=>h'.elim)) λ_ _ h'=>h'.elim))
theorem Oi (hs:∀x,foldedSetIterable it2 env x=pure x) (h:wpAny (model prog w) A (eval it2 env) (λx s₄=>wpAny (model prog w) A (pyIter x) (λj s₅=>codeAny (model prog w) (A.mark none) (.compStart E (d+1) j acc env) (λr s₆=>r= .ok .next/\P s₆) s₅) (λ_ _=>False) s₄) (λ_ _=>False) s):FG (model prog w) A E d itv acc env (HQ E d it2 itv acc env) P s:=by
 refine wpAny_bind (wpAny_mono h (λx s₄ h₄=>wpAny_bind (wpAny_standAt ?_)) λ_ _ h'=>h'.elim)
 rw [hs]
 refine wpAny_bind (wpAny_pure (wpAny_bind (wpAny_holding (wpAny_mono h₄ (λj s₅ h₅=>?_) λ_ _ h'=>h'.elim))))
 refine wpAny_bind (wpAny_runOwn (codeAny_mono h₅ λr s₆ h₆=>?_))
 obtain⟨rfl,h₆⟩:=h₆
 exact wpAny_pure ⟨rfl,h₆⟩
theorem Oj (ht:compTurn (.ListComp e0 gs sc ps) d itv acc env=EK (.ListComp e0 gs sc ps) d tg it ifs body itv acc env) (I:Nat->Shared->Prop)
  (turn : ∀ n s, I n s -> wpAny (model prog w) A (pyNext itv) (λr s₁ => match r with
   | none=>R (.ok .next) s₁
   | some v => wpAny (model prog w) A (letOwnedTupleGo tg itv v) (λ_ s₁' => wpAny (model prog w) A (assign tg env v) (λ_ s₂ =>
     wpAny (model prog w) A (forIn ifs true λc r=>if r=true then do let ok<-isTrue c env (eval c env);pure (ForInStep.yield ok) else pure (ForInStep.yield r)) (λok s₃=>
      if ok=true then FG (model prog w) A (.ListComp e0 gs sc ps) d itv acc env body (λs₅=>∃m,m<n/\I m s₅) s₃
      else ∃m,m<n/\I m s₃) (λ_ _=>False) s₂) (λ_ _=>False) s₁') (λ_ _=>False) s₁) (λ_ _=>False) s)
  (n:Nat) (h:I n s):codeAny (model prog w) A (.compLoop (.ListComp e0 gs sc ps) d itv acc env) R s:=by
 refine codeAny_loop rfl I (λn s hI=>?_) n h
 show wpAny _ A ((compTurn (.ListComp e0 gs sc ps) d itv acc env).onRaise (λx=>do noteFrame x env;theTreesLotGoes x)) _ _ s
 refine wpAny_noted ?_
 rw [ht]
 unfold EK
 refine wpAny_bind (wpAny_standAt (wpAny_bind (wpAny_mono (turn n s hI) (λr s₁ h₁=>?_) λ_ _ h'=>h'.elim)))
 cases r with
 | none=>exact wpAny_pure h₁
 | some v=>
  refine wpAny_bind (wpAny_mono h₁ (λ_ s₁' h₁'=>?_) λ_ _ h'=>h'.elim)
  refine wpAny_bind (wpAny_mono h₁' (λ_ s₂ h₂=>wpAny_bind (wpAny_mono h₂ (λok s₃ h₃=>?_) λ_ _ h'=>h'.elim)) λ_ _ h'=>h'.elim)
  cases ok with
  | false=>exact wpAny_pure ⟨rfl,h₃⟩
  | true=>exact wpAny_mono h₃ (λfin s₅ ⟨e,q⟩=>by subst e;exact⟨rfl,q⟩) λ_ _ h'=>h'.elim
end
structure CZ (Y:Cx) (a:Addr):Prop where
 loc:a≠Y.env.locals
 fs:a ∉ Y.fs
 sz:a∈Y.ex\/Y.s₀.heap.objs.size<=a
 cell:∀x c,Y.env.cells.lookup x=some c->c≠a
 pn:Y.pn=[]
 calm:Y.calm=true
abbrev DR (its:List Value) (k:Nat):Obj:= { cls:= .type "list",data:= .seq its.toArray k}
structure Grown (Y:Cx) (a:Addr) (PB:List (Addr×Obj)) (σ:St) (zs:List V) (H:Hp) (s:Shared):Prop where
 inv:Ac Y PB σ H s
 no:H a=none
 len:zs.length<=sizeLine
 at':∃its k,s.heap.get? a=some (DR its k)/\Au zs its
theorem Grown.pin {s:Shared}{k:Nat} (A:CZ Y a) (g:Grown Y a PB σ zs H s) (e:s.heap.get? a=some (DR its k)):Ac Y ((a,DR its k)::PB) σ H s:=
 g.inv.pins_of λp hp=>by
  rcases List.mem_cons.mp hp with rfl | hp
  ·exact⟨e,g.no,A.loc,A.fs,λv z=>by
    have z':Data.seq its.toArray k=Data.cell v:=z
    cases z'⟩
  ·exact g.inv.pin p (List.mem_append_right _ hp)
theorem Ac.grown {s:Shared}{k:Nat} (I:Ac Y ((a,DR its k)::PB) σ H s) (hz:zs.length<=sizeLine) (v:Au zs its):Grown Y a PB σ zs H s:=by
 have q:=I.pin (a,DR its k) (List.mem_append_right _ List.mem_cons_self)
 exact⟨I.pins_of λp hp=>I.pin p (List.mem_append_right _ (List.mem_cons_of_mem _ hp)),q.2.1,hz,its,k,q.1,v⟩
def JU:List V->Prop->Prop:=λzs p=>zs.length<sizeLine/\p
def Ol:List V->Prop->Prop:=λ_ p=>p
def EL (Y:Cx) (a:Addr) (E:Expr) (d:Nat) (body:Value->Sem PySem.Fin) (C:List V->Prop) (B:TB):Prop:=
 ∀(jt:Value) (PB:List (Addr×Obj)) (σ:St) (zs:List V) (H:Hp) (s:Shared) (N:List V->Hp->Prop) (P:Shared->Prop),(∀p∈PB,p.1≠a)->Grown Y a PB σ zs H s->C zs->B σ zs H N->(∀zs' H' s',Grown Y a PB σ zs' H' s'->N zs' H'->P s')->FG (model Y.prog Y.w) Y.A E d jt (.ref a) Y.env (body jt) P s
theorem JV {e0 tg it:Expr}{gs:List Comprehension}{ifs:List Expr}{sc:Scope}{ps:Pos}{d m0:Nat}{Y:Cx}{a jt:Addr}{PB:List (Addr×Obj)}{g:TG}{tt:TT}{B:TB}{C:List V->Prop}{Z:List V->Prop->Prop}{body:Value->Sem PySem.Fin}{fp:List Addr}{tn:Nat->Heap->Prop}{J:It}{W:Nat->Nat->List V->Hp->Prop}{σ:St}{ys:List V}{H:Hp}{s:Shared}{N:List V->Hp->Prop}{R:Result->Shared->Prop}
  (A:CZ Y a) (hPB:∀p∈PB,p.1≠a) (ht:∀itv,compTurn (.ListComp e0 gs sc ps) d itv (.ref a) Y.env=EK (.ListComp e0 gs sc ps) d tg it ifs (body itv) itv (.ref a) Y.env) (hx:Y.xe=λ_ _=>False) (hg:PG Y tg g) (htt:BN Y ifs tt) (hb:EL Y a (.ListComp e0 gs sc ps) d body C B) (hZ:∀zs p,Z zs p->C zs/\p)
  (T:CG Y.prog Y.w Y.K tg J fp jt tn) (na:∀b∈fp,b≠a) (fpY:∀ {o:Obj}{H':Hp},(∀b∈fp,H' b=none)->∀b∈fp,Ba Y ((a,o)::PB) H' b) (st:tn 0 s.heap) (gr:Grown Y a PB σ ys H s) (hn:∀b∈fp,H b=none) (w0:W 0 m0 ys H)
  (turn:∀j m zs H,W j m zs H->(J.stop j H/\N zs H)\/(J.go j H/\Z zs (∃N2:List V->Hp->Prop,(∀zs' H',N2 zs' H'->∃m',m'<m/\W (j+1) m' zs' H')/\∀x H',J.yld j H x H'->g x σ H' fun σ3 H2=>Keep σ σ3/\tt σ3 H2 λb H3=>br b (B σ3 zs H3 N2) (N2 zs H3))))
  (back:∀zs H' s',Grown Y a PB σ zs H' s'->N zs H'->R (.ok .next) s'):codeAny (model Y.prog Y.w) Y.A (.compLoop (.ListComp e0 gs sc ps) d (.ref jt) (.ref a) Y.env) R s:=by
 refine Oj (ht _) (λn' s'=>∃(j:Nat) (zs:List V) (H':Hp),Grown Y a PB σ zs H' s'/\tn j s'.heap/\(∀b∈fp,H' b=none)/\W j n' zs H') ?_ m0 ⟨0,ys,H,gr,st,hn,w0⟩
 rintro n' s12 ⟨j,zs,H12,g12,st12,fr12,w12⟩
 obtain⟨its',k',e12,v12⟩:=g12.at'
 have I12:=g12.pin A e12
 rcases turn j n' zs H12 w12 with⟨stop,q⟩ | ⟨go2,hz0⟩
 ·refine Am (T.done Y rfl rfl rfl A.calm j _ s12 _ H12 _ I12 (fpY fr12) st12 stop) λr s13 ⟨hr,I13⟩=>?_
  subst hr
  exact back zs H12 s13 (Ac.grown I13 g12.len v12) q
 ·obtain⟨hC,N2,hN2,step2⟩:=hZ _ _ hz0
  refine Am (T.item Y rfl rfl rfl A.calm j _ s12 _ H12 _ I12 (fpY fr12) st12 go2) λr s13 ⟨u2,hr,h13⟩=>?_
  subst hr
  refine Am h13 λ_ s14 ⟨x2,H14,I14,r14,y14,st14,fr14⟩=>?_
  have I14':=I14.pinned (fpY fr14) (T.obj _ _ st14)
  have hgY:=hg _ s14 _ H14 x2 u2 _ I14' r14 (step2 x2 H14 y14)
  rw [hx] at hgY
  refine Am hgY λ_ s15 ⟨σ15,H15,I15,kp2,q15⟩=>?_
  have htY:=htt _ s15 σ15 H15 _ I15 q15
  rw [hx] at htY
  refine Am htY λb2 s16 ⟨H16,I16,q16⟩=>?_
  have pn:∀p∈PB++Cr fp s14.heap,p.1≠a:=λp hp=>by
   rcases List.mem_append.mp hp with hp | hp
   ·exact hPB p hp
   ·exact na p.1 (Ht hp).1
  have back2:∀ {σ':St}{zs':List V}{H':Hp}{s':Shared},Keep σ σ'->Grown Y a (PB++Cr fp s14.heap) σ' zs' H' s'->N2 zs' H'->∃m,m<n'/\∃(j:Nat) (zs:List V) (H':Hp),Grown Y a PB σ zs H' s'/\tn j s'.heap/\(∀b∈fp,H' b=none)/\W j m zs H':=λ{σ' zs' H' s'} kp G n2=>by
   obtain⟨m',hm,w16⟩:=hN2 _ _ n2
   refine⟨m',hm,j+1,zs',H',⟨(G.inv.pins_of λp hp=>G.inv.pin p (List.mem_append_right _ (List.mem_append_left _ hp))).weak (by rw [kp.len]) λi v e=>kp.get e,G.no,G.len,G.at'⟩,T.keep _ _ _ st14 λb hb o e=>(G.inv.pin (b,o) (List.mem_append_right _ (List.mem_append_right _ (D8 hb e)))).1,λb hb=>?_,w16⟩
   obtain⟨o,e,d⟩:=T.obj _ _ st14 b hb
   exact(G.inv.pin (b,o) (List.mem_append_right _ (List.mem_append_right _ (D8 hb e)))).2.1
  have g16:Grown Y a (PB++Cr fp s14.heap) σ15 zs H16 s16:=Ac.grown I16 g12.len v12
  cases b2 with
  | false=>
   rw [if_neg Bool.false_ne_true]
   exact back2 kp2 g16 (q16.2 rfl)
  | true=>
   rw [if_pos rfl]
   exact hb _ _ _ _ _ _ _ _ pn g16 hC (q16.1 rfl) λzs' H' s' G n2=>back2 kp2 G n2
def HR (te:TE):TB:=fun σ zs H N=>te σ H λy H4=>N (zs++[y]) H4
theorem JW {elt:Expr}{d:Nat} (A:CZ Y a) (hx:Y.xe=λ_ _=>False) (he:PE Y elt te):EL Y a E d (λjt=>FF E d elt jt (.ref a) Y.env) (λzs=>zs.length<sizeLine) (HR te):=by
 intro jt PB σ zs H s N P hPB gr zlt h back
 obtain⟨its',k',e12,v12⟩:=gr.at'
 have I16:=gr.pin A e12
 have heY:=he _ s σ H _ I16 h
 rw [hx] at heY
 refine Oh (Am heY λyv s17 ⟨y,H17,I17,r17,n17⟩=>?_)
 have gI:=Ac.grown I17 gr.len v12
 have b4:=(I17.pin (a,DR its' k') (List.mem_append_right _ List.mem_cons_self)).1
 have hl:=v12.length
 refine call_meets F.slot_list_append ⟨_,b4,rfl⟩ F.entry_list_append (F.args_list_append_2 _ _) (PySem.list_append a its'.toArray k' yv (by rw [List.size_toArray];omega)) ⟨b4,?_⟩
 have q:=PySem.IsL.update b4 (λa=>a.push yv)
 have eqp:its'.toArray.push yv=(its'++[yv]).toArray:=by simp
 rw [eqp] at q
 have I18:Ac Y PB σ H17 { s17 with heap:=s17.heap.update a (Obj.mapSeq λa=>a.push yv),toks:=s17.toks}:=
  gI.inv.turned (it:=a) (λb o hb e=>(Heap.get?_update_other s17.heap _ (Ne.symm hb)).trans e) gI.no A.loc A.sz A.cell λp hp z=>by
   rw [A.pn,List.nil_append] at hp
   exact hPB p hp z
 exact back (zs++[y]) H17 _ ⟨I18,gI.no,by rw [List.length_append,List.length_singleton];omega,its'++[yv],_,q,v12.append (.cons r17 .nil)⟩ n17
def JX (Z:List V->Prop->Prop) (wi:TI) (g:TG) (tt:TT) (B:TB):TB:=fun σ ys H N=>wi σ H λJ H1=>∃W:Nat->Nat->List V->Hp->Prop,(∃m,W 0 m ys H1)/\∀j m zs H,W j m zs H->
  (J.stop j H/\N zs H)\/(J.go j H/\Z zs (∃N2:List V->Hp->Prop,(∀zs' H',N2 zs' H'->∃m',m'<m/\W (j+1) m' zs' H')/\∀x H',J.yld j H x H'->g x σ H' fun σ3 H2=>Keep σ σ3/\tt σ3 H2 λb H3=>br b (B σ3 zs H3 N2) (N2 zs H3)))
theorem Om {e0 tg it:Expr}{gs:List Comprehension}{ifs:List Expr}{sc:Scope}{ps:Pos}{d:Nat}{wi:TI}{g:TG}{B:TB}{C:List V->Prop}{Z:List V->Prop->Prop}{body:Value->Sem PySem.Fin} (A:CZ Y a) (hx:Y.xe=λ_ _=>False) (hs:∀x,foldedSetIterable it Y.env x=pure x)
  (ht:∀itv,compTurn (.ListComp e0 gs sc ps) (d+1) itv (.ref a) Y.env=EK (.ListComp e0 gs sc ps) (d+1) tg it ifs (body itv) itv (.ref a) Y.env)
  (hst:∀ {R:Result->Shared->Prop}{s:Shared}{j:Value},codeAny (model Y.prog Y.w) Y.A (.compLoop (.ListComp e0 gs sc ps) (d+1) j (.ref a) Y.env) R s->wpAny (model Y.prog Y.w) Y.A (pyIter j) (λj' s'=>codeAny (model Y.prog Y.w) Y.A (.compLoop (.ListComp e0 gs sc ps) (d+1) j' (.ref a) Y.env) R s') (notedBy (model Y.prog Y.w) Y.A Y.env λx s'=>R (.error x) s') s->codeAny (model Y.prog Y.w) Y.A (.compStart (.ListComp e0 gs sc ps) (d+1) j (.ref a) Y.env) R s)
  (hi:PI Y tg it wi) (hg:PG Y tg g) (htt:BN Y ifs tt) (hb:EL Y a (.ListComp e0 gs sc ps) (d+1) body C B) (hZ:∀zs p,Z zs p->C zs/\p):EL Y a (.ListComp e0 gs sc ps) d (λjt=>HQ (.ListComp e0 gs sc ps) d it jt (.ref a) Y.env) (λ_=>True) (JX Z wi g tt B):=by
 intro jt0 PB σ ys H s N P hPB gr _ h back
 obtain⟨its,k,ee,v0⟩:=gr.at'
 have I0:=gr.pin A ee
 have base:=hi _ s σ H _ I0 h
 rw [hx] at base
 refine Oi hs (Am base λv9 s9 h9=>Am h9 λitv2 s10 h10=>?_)
 obtain⟨jt,fp,tn,J,H10,e10,I10,T,st10,f10,W,⟨m2,w2⟩,turn⟩:=h10
 subst e10
 have g10:=Ac.grown I10 gr.len v0
 have ne2:∀b∈fp,b≠a/\∀p∈PB,p.1≠b:=λb hb=>by
  obtain⟨_,_,_,_,_,f5⟩:=f10 b hb
  exact⟨λz=>f5 (a,DR its k) (List.mem_append_right _ List.mem_cons_self) z.symm,λp hp=>f5 p (List.mem_append_right _ (List.mem_cons_of_mem _ hp))⟩
 have fpY:∀ {o:Obj}{H':Hp},(∀b∈fp,H' b=none)->∀b∈fp,Ba Y ((a,o)::PB) H' b:=λ{o H'} hn b hb=>by
  obtain⟨_,f1,f2',f3,f4,_⟩:=f10 b hb
  refine⟨hn b hb,f1,f2',f3,f4,λp hp e=>?_⟩
  rw [A.pn,List.nil_append] at hp
  rcases List.mem_cons.mp hp with rfl | hp
  ·exact(ne2 b hb).1 e.symm
  ·exact(ne2 b hb).2 p hp e
 have loop:codeAny (model Y.prog Y.w) Y.A (.compLoop (.ListComp e0 gs sc ps) (d+1) (.ref jt) (.ref a) Y.env) (λr s₆=>r= .ok .next/\P s₆) s10:=
  JV A hPB ht hx hg htt hb hZ T (λb hb=>(ne2 b hb).1) fpY st10 g10 (λb hb=>(f10 b hb).1) w2 turn λzs H' s' G n=>⟨rfl,back zs H' s' G n⟩
 exact hst loop (T.self _ 0 _ _ _ st10 loop)
theorem JY {X:Cx}{tg iter e0:Expr}{gs:List Comprehension}{ifs:List Expr}{scope:Scope}{pos pos':Pos}{wi:TI}{g:TG}{tt:TT}{Bt:TB}{Cd:List V->Prop} (Z:List V->Prop->Prop) {N':List Str}{cap:List (Option Nat)}{use:Option (Value->Sem Unit)}{Q':Value->Shared->Prop}{body:Value->Value->Env->Sem PySem.Fin}
  {pins:List (Addr×Obj)}{s:Shared}{σ:St}{H:Hp}{Q:List V->Hp->Prop}
  (hc:X.calm=true) (hi:PI X tg iter wi) (B:AS X.env.scope X.N scope N' cap) (hg:∀s H ex C,PG (AJ X N' scope s H ex C) tg g) (ht:∀s H ex C,BN (AJ X N' scope s H ex C) ifs tt)
  (htn:∀itv acc env,compTurn (.ListComp e0 (⟨tg,iter,ifs,0⟩::gs) scope pos) 0 itv acc env=EK (.ListComp e0 (⟨tg,iter,ifs,0⟩::gs) scope pos) 0 tg iter ifs (body itv acc env) itv acc env)
  (hbd:∀s H ex C a,CZ (AJ X N' scope s H ex C) a->EL (AJ X N' scope s H ex C) a (.ListComp e0 (⟨tg,iter,ifs,0⟩::gs) scope pos) 0 (λitv=>body itv (.ref a) (AJ X N' scope s H ex C).env) Cd Bt) (hZ:∀zs p,Z zs p->Cd zs/\p)
  (hs:∀x,foldedSetIterable iter X.env x=pure x) (I:Ac X pins σ H s)
  (h:wi σ H λJ H1=>∃W:Nat->Nat->List V->Hp->Prop,(∃m,W 0 m [] H1)/\∀i m ys H,W i m ys H->(J.stop i H/\Q ys H)\/(J.go i H/\Z ys (∃N:List V->Hp->Prop,(∀ys' H',N ys' H'->∃m',m'<m/\W (i+1) m' ys' H')/\∀x H',J.yld i H x H'->g x (AM cap σ) H' fun σ2 H2=>Keep (AM cap σ) σ2/\tt σ2 H2 λb H3=>br b (Bt σ2 ys H3 N) (N ys H3))))
  (fin:∀(acc C:Addr) (H:Hp) (ys:List V) (s':Shared),H acc=none->Ac X pins σ (upd H acc (.lst ys)) s'->FE X pins C (upd H acc (.lst ys)) s'->Q ys H->compPost (model X.prog X.w) X.A X.xe use Q' (.ref acc) C (.ok .next) s'):
  wpAny (model X.prog X.w) X.A (comprehension (.ListComp e0 (⟨tg,iter,ifs,0⟩::gs) scope pos) scope X.env pos' (newList []) false (eval iter X.env) use) Q' X.xe s:=by
 have hclos:closureFor scope X.env=pure (Bf X.env.cells scope.names []):=JQ λy hy hf=>I.ok.has y.1 (B.free y hy hf)
 refine wpAny_comprehension_free (cl:=Bf X.env.cells scope.names []) rfl hs hclos B.kind B.names (Am (hi pins s σ H _ I h) λv s1 h1=>Am h1 λitv s2 h2=>?_)
 obtain⟨it,fp,tn,J,H2,e,I2,T,st2,f2,W,⟨m0,w0⟩,turn⟩:=h2
 subst e
 refine wpAny_newObj_type (JR ?_)
 dsimp only
 generalize hH3:s2.heap.push { cls:= .type "list",dict:=none,data:= .seq ([]:List Value).toArray}=h3
 have hsz3:h3.objs.size=s2.heap.objs.size+1:=by rw [<-hH3];exact Heap.size_push ..
 have hk3:∀b o,s2.heap.get? b=some o->h3.get? b=some o:=λb o e=>by rw [<-hH3];exact Heap.get?_push_of_some _ e
 have hacc3:h3.get? s2.heap.objs.size=some { cls:= .type "list",data:= .seq ([]:List Value).toArray}:=by rw [<-hH3];exact Heap.get?_push_size _ rfl
 have hlt:∀b∈fp,b<s2.heap.objs.size:=λb hb=>let ⟨o,e,_⟩:=T.obj _ _ st2 b hb;Heap.lt_size e
 have I4:=JT I2 B f2 hlt hk3 (by rw [hsz3];exact Nat.le_succ _)
 have acc4:(pushCells (h3.push { cls:= .type "dict",data:= .dict #[]}) scope.names).get? s2.heap.objs.size=some { cls:= .type "list",data:= .seq ([]:List Value).toArray}:=pushCells_keeps _ _ _ _ (Heap.get?_push_of_some _ hacc3)
 have st4:tn 0 (pushCells (h3.push { cls:= .type "dict",data:= .dict #[]}) scope.names):=T.keep _ _ _ st2 λb _ o e=>pushCells_keeps _ _ _ _ (Heap.get?_push_of_some _ (hk3 b o e))
 have haC:s2.heap.objs.size≠h3.objs.size:=by rw [hsz3];exact Nat.ne_of_lt (Nat.lt_succ_self _)
 have haN:s2.heap.objs.size ∉ Br X.stack:=λz=>by
  rcases List.mem_cons.mp (I2.stkSub _ z) with q | q
  ·exact absurd I2.lt (by rw [<-q];exact Nat.lt_irrefl _)
  ·exact I2.nofs (Nat.le_refl _) q
 have okY:=I4.ok
 have fpY:∀ {pins':List (Addr×Obj)}{H':Hp},(∀b∈fp,H' b=none)->(∀p∈pins',p.1=s2.heap.objs.size)->∀b∈fp,Ba (AJ X N' scope s2 H2 fp h3.objs.size) pins' H' b:=λ{pins' H'} hn hp b hb=>
  ⟨hn b hb, (okY.exf b hb).1, okY.exfs b hb, .inl hb, (okY.exf b hb).2, λp z e => by
   have z':p∈pins':=z
   have:=hlt b hb
   rw [<-e,hp p z'] at this
   exact Nat.lt_irrefl _ this⟩
 have cellNe:∀x c,(AJ X N' scope s2 H2 fp h3.objs.size).env.cells.lookup x=some c->c≠s2.heap.objs.size:=λx c ec z=>by
  rcases Ec scope.names (h3.objs.size+1) _ ec with q' | q'
  ·rw [z,hsz3] at q'
   exact absurd q' (by omega)
  ·have ec':X.env.cells.lookup x=some c:=(DQ _ _ q').elim id λz=>nomatch z
   obtain⟨_,q''⟩:=I2.cell x c ec'
   have:=q''.lt
   rw [z] at this
   exact Nat.lt_irrefl _ this
 have loop:∀s4:Shared,s4= { s2 with heap:=pushCells (h3.push { cls:= .type "dict",data:= .dict #[]}) scope.names}->
   codeAny (model X.prog X.w) X.A (.compLoop (.ListComp e0 (⟨tg,iter,ifs,0⟩::gs) scope pos) 0 (.ref it) (.ref s2.heap.objs.size) (HN scope X.env h3.objs.size)) (compPost (model X.prog X.w) X.A X.xe use Q' (.ref s2.heap.objs.size) h3.objs.size) s4:=by
  rintro s4 rfl
  have A0:CZ (AJ X N' scope s2 H2 fp h3.objs.size) s2.heap.objs.size:=⟨haC,haN,.inr (Nat.le_refl _),cellNe,rfl,hc⟩
  refine JV (Y:=AJ X N' scope s2 H2 fp h3.objs.size) (PB:=[]) (W:=W) A0 (λp hp=>absurd hp (by simp)) (λ_=>htn _ _ _) rfl (hg _ _ _ _) (ht _ _ _ _) (hbd _ _ _ _ _ A0) hZ T (λb hb z=>absurd (hlt b hb) (by rw [z];exact Nat.lt_irrefl _))
   (λ{o H'} hn b hb=>fpY hn (λp hp=>by rw [List.mem_singleton.mp hp]) b hb) st4 ⟨I4,I2.hok.fresh (Nat.le_refl _),Nat.zero_le _,[],0,acc4,.nil⟩ (λb hb=>(f2 b hb).1) w0 turn λys H5 s6 G q=>?_
  obtain⟨its,k,e6,v5⟩:=G.at'
  have fa5:=G.no
  have z5:=G.len
  have I6:=G.inv
  have nacc:∀b u,H5 b=some u->b≠s2.heap.objs.size:=λb u q z=>by rw [z,fa5] at q;cases q
  have un:Un (Br X.stack) fp H2 (upd H5 s2.heap.objs.size (.lst ys)) s2.heap s6.heap:=by
   have u:=I6.base
   refine⟨u.keep,u.slot,λb o q n hx=>?_,u.there,λb xs q=>?_,λb o xs q=>?_,λb ps q=>?_⟩
   ·rw [Ap (Nat.ne_of_lt (Heap.lt_size q))]
    exact u.free b o q n hx
   ·have z:=u.tups b xs q
    rw [Ap (nacc b _ z)];exact z
   ·have z:=u.frzs b o xs q
    rw [Ap (nacc b _ z)];exact z
   ·obtain⟨more,z⟩:=u.tbls b ps q
    exact⟨more,by rw [Ap (nacc b _ z)];exact z⟩
  have hok:HOk X.prog X.w (upd H5 s2.heap.objs.size (.lst ys)) s6.heap:=λb u q=>by
   by_cases hb:b=s2.heap.objs.size
   ·subst hb
    rw [Ai] at q;cases q
    exact⟨z5,its,k,v5,e6⟩
   ·rw [Ap hb] at q
    have o6:ObjOk X.prog X.w H5 s6.heap b u:=I6.hok b u q
    exact o6.stay (λ_ _ _ e=>e) (λc z=>by rw [Ap (nacc c _ z)];exact z) λc xs z=>by rw [Ap (nacc c _ z)];exact z
  have IX:Ac X pins σ (upd H5 s2.heap.objs.size (.lst ys)) s6:=I2.call' (show s6.os=s2.os from I6.os) un hok I6.bare λb hb=>let f:=f2 b hb;⟨f.2.2.2.1,f.2.1,f.2.2.2.2.1,f.2.2.2.2.2⟩
  have hCs:s2.heap.objs.size<=h3.objs.size:=by rw [hsz3];exact Nat.le_succ _
  refine fin _ _ H5 ys s6 fa5 IX ⟨let ⟨m,hn,_⟩:=I6.loc;⟨m,hn⟩,?_,?_,Nat.le_trans I2.sz hCs,λx c ec z=>?_,λp hp z=>?_⟩ q
  ·rw [Ap (Ne.symm haC)];exact I6.free
  ·exact Nat.ne_of_gt (Nat.lt_of_lt_of_le I2.lt hCs)
  ·obtain⟨_,q⟩:=I2.cell x c ec
   have:=q.lt
   rw [z] at this
   exact absurd (Nat.lt_of_lt_of_le this hCs) (Nat.lt_irrefl _)
  ·have:=Heap.lt_size (I2.pin p hp).1
   rw [z] at this
   exact absurd (Nat.lt_of_lt_of_le this hCs) (Nat.lt_irrefl _)
 exact codeAny_compStart_list (loop _ rfl) (T.self _ 0 _ _ _ st4 (loop _ rfl))
theorem JZ {X:Cx}{tg iter elt:Expr}{ifs:List Expr}{scope:Scope}{pos pos':Pos}{wi:TI}{g:TG}{tt:TT}{te:TE}{N':List Str}{cap:List (Option Nat)}{use:Option (Value->Sem Unit)}{Q':Value->Shared->Prop}
  {pins:List (Addr×Obj)}{s:Shared}{σ:St}{H:Hp}{Q:List V->Hp->Prop}
  (hc:X.calm=true) (hi:PI X tg iter wi) (B:AS X.env.scope X.N scope N' cap) (hg:∀s H ex C,PG (AJ X N' scope s H ex C) tg g) (ht:∀s H ex C,BN (AJ X N' scope s H ex C) ifs tt) (he:∀s H ex C,PE (AJ X N' scope s H ex C) elt te)
  (hs:∀x,foldedSetIterable iter X.env x=pure x) (I:Ac X pins σ H s) (h:HP wi cap g tt te σ H Q)
  (fin:∀(acc C:Addr) (H:Hp) (ys:List V) (s':Shared),H acc=none->Ac X pins σ (upd H acc (.lst ys)) s'->FE X pins C (upd H acc (.lst ys)) s'->Q ys H->compPost (model X.prog X.w) X.A X.xe use Q' (.ref acc) C (.ok .next) s'):
  wpAny (model X.prog X.w) X.A (comprehension (.ListComp elt [⟨tg,iter,ifs,0⟩] scope pos) scope X.env pos' (newList []) false (eval iter X.env) use) Q' X.xe s:=
 JY JU (body:=λitv acc env=>FF (.ListComp elt [⟨tg,iter,ifs,0⟩] scope pos) 0 elt itv acc env) (Bt:=HR te) hc hi B hg ht (λ_ _ _=>rfl) (λs H ex C a A=>JW A rfl (he s H ex C)) (λ_ _ z=>z) hs I h fin
def On (wi:TI) (cap:List (Option Nat)) (g:TG) (tt:TT) (te:TE):TE:=fun σ H Q=>HP wi cap g tt te σ H λys H'=>∀p,H' p=none->Q (.ref p) (upd H' p (.lst ys))
theorem Bx {X:Cx}{tg iter elt:Expr}{ifs:List Expr}{scope:Scope}{pos:Pos}{wi:TI}{g:TG}{tt:TT}{te:TE} (N':List Str) (cap:List (Option Nat))
  (hc:X.calm=true) (hi:PI X tg iter wi) (B:AS X.env.scope X.N scope N' cap) (hg:∀s H ex C,PG (AJ X N' scope s H ex C) tg g) (ht:∀s H ex C,BN (AJ X N' scope s H ex C) ifs tt) (he:∀s H ex C,PE (AJ X N' scope s H ex C) elt te)
  (hs:∀x,foldedSetIterable iter X.env x=pure x:=by intro _;rfl):PE X (.ListComp elt [⟨tg,iter,ifs,0⟩] scope pos) (On wi cap g tt te):=by
 intro pins s σ H Q I h
 rw [eval_ListComp]
 refine JZ (use:=none) hc hi B hg ht he hs I h λacc C H ys s' hn I' L q=>?_
 obtain⟨m,hm⟩:=L.ns
 refine⟨m,hm,λh' hsb=>⟨.ref acc,_,I'.turned (t':=s'.toks) (it:=C) (λb o hb e=>hsb.extBut b o hb e) L.free L.loc (.inr L.sz) L.cell L.pin,rfl,q acc hn⟩⟩
def Oo (i:Nat) (wi:TI) (cap:List (Option Nat)) (g:TG) (tt:TT) (te:TE):TS:=λD σ H=>HP wi cap g tt te σ H λys H'=>∀p,H' p=none->D.nx (σ.set i (some (.ref p))) (upd H' p (.lst ys))
theorem HS {X:Cx}{i:Nat}{y:Str}{tg iter elt:Expr}{ifs:List Expr}{scope:Scope}{pos pos' pos'':Pos}{wi:TI}{g:TG}{tt:TT}{te:TE} (N':List Str) (cap:List (Option Nat)) (hN:X.N.Nodup) (hin:X.N[i]? =some y) (hy:DJ X.env.scope y)
  (hc:X.calm=true) (hi:PI X tg iter wi) (B:AS X.env.scope X.N scope N' cap) (hg:∀s H ex C,PG (AJ X N' scope s H ex C) tg g) (ht:∀s H ex C,BN (AJ X N' scope s H ex C) ifs tt) (he:∀s H ex C,PE (AJ X N' scope s H ex C) elt te)
  (hsw:swapsWith (.ListComp elt [⟨tg,iter,ifs,0⟩] scope pos) (some (.Name y pos')) pos''.line X.env=pure true:=by rfl)
  (hf:X.fn y=true\/X.env.scope.names.lookup y=some .local :=by first | exact .inl rfl | exact .inr rfl | assumption)
  (hs:∀x,foldedSetIterable iter X.env x=pure x:=by intro _;rfl):PS X (.Assign [.Name y pos'] (.ListComp elt [⟨tg,iter,ifs,0⟩] scope pos) pos'') (Oo i wi cap g tt te):=by
 intro pins s σ H D I h
 rw [exec_Assign_Name_used _ _ _ _ hsw]
 refine wpAny_bind (wpAny_standAt (wpAny_bind ?_))
 show wpAny _ X.A (do let _<-comprehension (.ListComp elt [⟨tg,iter,ifs,0⟩] scope pos) scope X.env _ (newList []) false (eval iter X.env) (some (assign (.Name y pos') X.env))) _ _ s
 refine wpAny_bind (wpAny_mono (JZ (use:=some (assign (.Name y pos') X.env)) (Q':=λ_ s'=>SP X pins D .next s') hc hi B hg ht he hs I h λacc C H ys s' hn I' L q=>?_) (λ_ s' hq=>wpAny_pure (wpAny_pure hq)) λ_ _ e=>e)
 obtain⟨m,hm⟩:=L.ns
 refine wpAny_assign_Name (Hn I' hN hin hy (show Av (.ref acc) (.ref acc) from rfl) (λs'' I'' ⟨a,sb,ha⟩=>?_) hf)
 have hCa:C≠a:=by
  rcases ha with e | e
  ·rw [e];exact L.loc
  ·exact λz=>L.cell _ _ e z.symm
 refine⟨m,hm.sameBut sb hCa,λh' hsb=>?_⟩
 exact⟨_,_,I''.turned (t':=s''.toks) (it:=C) (λb o hb e=>hsb.extBut b o hb e) L.free L.loc (.inr L.sz) L.cell L.pin,q acc hn⟩
def DS (J:It) (cap:List (Option Nat)) (g:TG) (tt:TT) (te:TE) (σ:St) (Q:List V->Hp->Prop) (H1:Hp):Prop:=
 ∃W:Nat->Nat->List V->Hp->Prop,(∃m,W 0 m [] H1)/\∀i m ys H,W i m ys H->
  (J.stop i H/\Q ys H)\/
  (J.go i H /\ ys.length < sizeLine /\ ∃ N : List V -> Hp -> Prop, (∀ ys' H', N ys' H' -> ∃ m', m' < m /\ W (i + 1) m' ys' H') /\ ∀ x H', J.yld i H x H' -> g x (AM cap σ) H' fun σ2 H2 => Keep (AM cap σ) σ2 /\ tt σ2 H2 λb H3 =>
   br b (te σ2 H3 λy H4=>N (ys++[y]) H4) (N ys H3))
theorem Ed {J:It}{g:TG} (n:Nat) (Pv:Nat->List V->Hp->Prop) (hn:n<=100000) (h0:Pv 0 [] H) (hz:∀i ys H,Pv i ys H->ys.length<=i)
  (hs:∀i ys H,i<n->Pv i ys H->J.go i H/\∀x H',J.yld i H x H'->g x (AM cap σ) H' fun σ2 H2=>Keep (AM cap σ) σ2/\tt σ2 H2 λb H3=>br b (te σ2 H3 λy H4=>Pv (i+1) (ys++[y]) H4) (Pv (i+1) ys H3))
  (hd:∀ys H,Pv n ys H->J.stop n H/\Q ys H):DS J cap g tt te σ Q H:=by
 refine⟨λi m ys H=>m=n-i/\i<=n/\Pv i ys H,⟨n,by simp,Nat.zero_le _,h0⟩,?_⟩
 rintro i m ys H ⟨rfl,hi,p⟩
 by_cases hlt:i<n
 ·obtain⟨a,b⟩:=hs i ys H hlt p
  refine .inr ⟨a,?_,Pv (i+1),λys' H' p'=>⟨n-(i+1),by omega,rfl,hlt,p'⟩,b⟩
  have:=hz i ys H p
  have:(100000:Nat)<sizeLine:=by decide
  omega
 ·have e:i=n:=by omega
  subst e
  exact .inl (hd ys H p)
theorem B4 {K:PySem.W.Frag}{g:TG} (Pv:Nat->List V->Hp->Prop) (hn:xs.length<=100000) (h0:Pv 0 [] H) (hz:∀i ys H,Pv i ys H->ys.length<=i)
  (hl:∀i ys H,i<=xs.length->Pv i ys H->Ae K H a xs)
  (hs:∀i x ys H,xs[i]? =some x->Pv i ys H->g x (AM cap σ) H fun σ2 H2=>Keep (AM cap σ) σ2/\tt σ2 H2 λb H3=>br b (te σ2 H3 λy H4=>Pv (i+1) (ys++[y]) H4) (Pv (i+1) ys H3))
  (hd:∀ys H,Pv xs.length ys H->Q ys H):DS (DL K a) cap g tt te σ Q H:=
 Ed xs.length Pv hn h0 hz (λi ys H hi p=>⟨⟨xs,xs[i],hl i ys H (Nat.le_of_lt hi) p,by simp [hi]⟩,λx H' ⟨e,y⟩=>by subst e;exact hs i x ys _ (y xs (hl i ys _ (Nat.le_of_lt hi) p)) p⟩)
  λys H p=>⟨⟨xs,hl _ ys H (Nat.le_refl _) p,Nat.le_refl _⟩,hd ys H p⟩
theorem Op {K:PySem.W.Frag}{g:TG} (Pv:Nat->List V->Hp->Prop) (hn:xs.length<=100000) (h0:Pv 0 [] H) (hz:∀i ys H,Pv i ys H->ys.length<=i)
  (hl:∀i ys H,i<=xs.length->Pv i ys H->An K H a xs)
  (hs:∀i x ys H,xs[i]? =some x->Pv i ys H->g x (AM cap σ) H fun σ2 H2=>Keep (AM cap σ) σ2/\tt σ2 H2 λb H3=>br b (te σ2 H3 λy H4=>Pv (i+1) (ys++[y]) H4) (Pv (i+1) ys H3))
  (hd:∀ys H,Pv xs.length ys H->Q ys H):DS (D7 K a) cap g tt te σ Q H:=
 Ed xs.length Pv hn h0 hz (λi ys H hi p=>⟨⟨xs,xs[i],hl i ys H (Nat.le_of_lt hi) p,by simp [hi]⟩,λx H' ⟨e,y⟩=>by subst e;exact hs i x ys _ (y xs (hl i ys _ (Nat.le_of_lt hi) p)) p⟩)
  λys H p=>⟨⟨xs,hl _ ys H (Nat.le_refl _) p,Nat.le_refl _⟩,hd ys H p⟩
theorem J0 {lo:Int}{n:Nat}{g:TG} (Pv:Nat->List V->Hp->Prop) (hn:n<=100000) (h0:Pv 0 [] H) (hz:∀i ys H,Pv i ys H->ys.length<=i)
  (hs:∀i ys H,i<n->Pv i ys H->g (.int (lo+i)) (AM cap σ) H fun σ2 H2=>Keep (AM cap σ) σ2/\tt σ2 H2 λb H3=>br b (te σ2 H3 λy H4=>Pv (i+1) (ys++[y]) H4) (Pv (i+1) ys H3))
  (hd:∀ys H,Pv n ys H->Q ys H):DS (CH lo n) cap g tt te σ Q H:=
 Ed n Pv hn h0 hz (λi ys H hi p=>⟨hi,λx H' ⟨e,y⟩=>by subst e y;exact hs i ys _ hi p⟩) λys H p=>⟨Nat.le_refl _,hd ys H p⟩
end L2
end
section
namespace L2
open PySem PySem.Spec PyProof.Rows
open AutoSeq1 (wpAny_loadPart')
section
variable {prog : Program} {w : World} {A : Around} {E : Value -> Shared -> Prop} {s : Shared}
theorem Oq {it t:Addr}{i:Nat}{items:Array Value}{x:Value}{Q:Value->Shared->Prop} (hit:s.heap.IsTupleIter it t i) (ht:s.heap.IsTuple t items) (hx:items[i]? =some x)
  (hQ:∀h',h'.IsTupleIter it t (i+1)->Heap.SameBut it s.heap h'->Q x { s with heap:=h'}):wpAny (model prog w) A (Builtin.SmallTypes.nextOf (.ref it)) Q E s:=by
 obtain⟨o,ho,hc,hd⟩:=id hit;obtain⟨ol,hol,_,nl,hdl⟩:=ht;unfold Builtin.SmallTypes.nextOf
 refine wpAny_bind (wpAny_callSpecial?_slot (name:=Str.ofString "__next__") hit.typeIs F.slot_tuple_iterator_next (wpAny_call_entry F.slot_tuple_iterator_next hit.typeIs F.entry_tuple_iterator_next ?_ (F.args_tuple_iterator_next_1 _)))
 show wpAny _ _ (field (.ref it) 0>>=_) _ _ s;refine wpAny_bind (wpAny_field ho hd (x:= .ref t) rfl ?_)
 show wpAny _ _ (if (Value.ref t==Value.none)=true then _ else _) _ _ s;rw [if_neg (show ¬((Value.ref t==Value.none)=true) from Bool.false_ne_true)]
 show wpAny _ _ (field (.ref it) 1>>=_) _ _ s;refine wpAny_bind (wpAny_field ho hd (x:= .int i 0) rfl ?_)
 show wpAny _ _ (seqItems? (.ref t) >>=_) _ _ s;refine wpAny_bind (wpAny_seqItems hol hdl ?_);simp only [Int.toNat_natCast,hx]
 refine wpAny_bind (wpAny_setField ho hd (by simp) (wpAny_pure ⟨x,rfl,wpAny_pure (hQ _ ?_ (Heap.SameBut.update ..))⟩));exact⟨_,Heap.get?_update_self _ ho (Obj.isFreed_of_fields (Obj.data_mapFields hd _)),(Obj.cls_mapFields ..).trans hc,by rw [Obj.data_mapFields hd];simp [rawInt]⟩
theorem Os {it t:Addr}{i:Nat}{items:Array Value}{Q:Value->Shared->Prop} (hh:A.handled=none) (hit:s.heap.IsTupleIter it t i) (ht:s.heap.IsTuple t items) (hx:items[i]? =none)
  (hE:∀h' e,Heap.ExtBut it s.heap h'->(∃o,h'.get? e=some o/\o.cls= .type "StopIteration")->E (.ref e) { s with heap:=h'}):wpAny (model prog w) A (Builtin.SmallTypes.nextOf (.ref it)) Q E s:=by
 obtain⟨o,ho,hc,hd⟩:=id hit;obtain⟨ol,hol,_,nl,hdl⟩:=ht;unfold Builtin.SmallTypes.nextOf
 refine wpAny_bind (wpAny_callSpecial?_slot (name:=Str.ofString "__next__") hit.typeIs F.slot_tuple_iterator_next (wpAny_call_entry F.slot_tuple_iterator_next hit.typeIs F.entry_tuple_iterator_next ?_ (F.args_tuple_iterator_next_1 _)))
 show wpAny _ _ (field (.ref it) 0>>=_) _ _ s;refine wpAny_bind (wpAny_field ho hd (x:= .ref t) rfl ?_)
 show wpAny _ _ (if (Value.ref t==Value.none)=true then _ else _) _ _ s;rw [if_neg (show ¬((Value.ref t==Value.none)=true) from Bool.false_ne_true)]
 show wpAny _ _ (field (.ref it) 1>>=_) _ _ s;refine wpAny_bind (wpAny_field ho hd (x:= .int i 0) rfl ?_)
 show wpAny _ _ (seqItems? (.ref t) >>=_) _ _ s;refine wpAny_bind (wpAny_seqItems hol hdl ?_);simp only [Int.toNat_natCast,hx]
 refine wpAny_bind (wpAny_rule (wpAny_bind (wpAny_setField ho hd (by simp) ?_)));show wpAny _ _ (newExc (.type "StopIteration") [] >>=_) _ _ _
 refine wpAny_bind ?_;simp only [newExc,newTuple];refine wpAny_bind (wpAny_newObj_type ?_ (by size_fits))
 refine wpAny_bind (m:=firstArgMember _ _) (wpAny_of_eq (a:=Value.none) (by first | rfl | (simp only [firstArgMember];rfl)) ?_);refine wpAny_newObj_type ?_ (by size_fits);simp only [raiseNew]
 refine wpAny_bind (wpAny_handled ?_);first | rw [show A.in1.handled=none from hh] | rw [hh]
 refine wpAny_bind (wpAny_pure (wpAny_throw ?_));exact hE _ _ (((Heap.SameBut.update ..).extBut.push _).push _) ⟨_,Heap.get?_push_size _ rfl,rfl⟩
end
structure AV (P:Program) (w:World) (K:PySem.W.Frag) where
 Sq:Hp->Addr->List V->Prop
 It:Heap->Addr->Addr->Nat->Prop
 Is:Heap->Addr->Array Value->Prop
 obj:Addr->Obj
 get:∀ {X:Cx}{pins:List (Addr×Obj)}{σ:St}{H:Hp}{s:Shared}{a:Addr}{xs:List V},X.K=K->Ac X pins σ H s->Sq H a xs->∃its:List Value,Au xs its/\Is s.heap a its.toArray/\xs.length<=sizeLine
 inj:∀ {X:Cx}{pins:List (Addr×Obj)}{σ:St}{H:Hp}{s:Shared}{a:Addr}{xs ys:List V},X.K=K->Ac X pins σ H s->Sq H a xs->Sq H a ys->xs=ys
 draws:∀(A:Around),A.handled=none->∀(it l:Addr),l≠it->∀items:Array Value,Draws P w A it [it,l] items.size (λi v=>items[i]? =some v) (λi h=>It h it l i/\Is h l items)
 ito:∀ {h:Heap}{it l:Addr}{i:Nat},It h it l i->∃o,h.get? it=some o/\∀v,o.data≠ .cell v
 itk:∀ {h h':Heap}{it l:Addr}{i:Nat},It h it l i->(∀o,h.get? it=some o->h'.get? it=some o)->It h' it l i
 isk:∀ {h h':Heap}{l:Addr}{items:Array Value},Is h l items->(∀o,h.get? l=some o->h'.get? l=some o)->Is h' l items
 iso:∀ {h:Heap}{l:Addr}{items:Array Value},Is h l items->∃o,h.get? l=some o
 itn:∀(h:Heap) (l:Addr),It (h.push (obj l)) h.objs.size l 0
 itr:∀ {A:Around}{E:Value->Shared->Prop}{s:Shared}{l:Addr}{items:Array Value}{Q:Value->Shared->Prop},Is s.heap l items->Q (.ref s.heap.objs.size) { s with heap:=s.heap.push (obj l)}->wpAny (model P w) A (pyIter (.ref l)) Q E s
def BO (P:Program) (w:World) (K:PySem.W.Frag):AV P w K where
 Sq:=λH a xs=>An K H a xs
 It:=λh it l i=>h.IsListIter it l i
 Is:=λh l items=>h.IsList l items
 obj:=λl=> { cls:= .type "list_iterator",data:= .fields #[.ref l,.int 0 0]}
 get:=λ{X pins σ H s a xs} hK I q=>by subst hK;obtain⟨its,r,p,z⟩:=I.list q;exact⟨its,r,p.isList,z⟩
 inj:=λ{X pins σ H s a xs ys} hK I q q'=>by subst hK;exact I.list_inj q q'
 draws:=λA hh it l hne items=>Draws.list hh it l hne items
 ito:=λ{h it l i} ⟨o,e,c,d⟩=>⟨o,e,λv z=>by rw [d] at z;cases z⟩
 itk:=λ{h h' it l i} x k=>x.at k
 isk:=λ{h h' l items} x k=>x.at k
 iso:=λ{h l items} ⟨o,e,_⟩=>⟨o,e⟩
 itn:=λh l=>⟨_,Heap.get?_push_size _ rfl,rfl,rfl⟩
 itr:=λ{A E s l items Q} x q=>wpAny_pyIter_list x q
def BE (P:Program) (w:World) (K:PySem.W.Frag):AV P w K where
  Sq:=λH a xs=>Ae K H a xs
  It:=λh it l i=>h.IsTupleIter it l i
  Is:=λh l items=>h.IsTuple l items
  obj:=λl=> { cls:= .type "tuple_iterator",data:= .fields #[.ref l,.int 0 0]}
  get:=λ{X pins σ H s a xs} hK I q=>by subst hK;obtain⟨its,r,p,z⟩:=I.tuple q;exact⟨its,r,p,z⟩
  inj:=λ{X pins σ H s a xs ys} hK I q q'=>by subst hK;exact I.tuple_inj q q'
  draws:=λA hh it l hne items=>
    { live:=λ_ _ st=>let ⟨o,ho,_⟩:=st.1;⟨o,ho⟩
      frame:=λ_ _ _ st hk=>⟨let ⟨o,e,r⟩:=st.1;⟨o,hk it (by simp) o e,r⟩,let ⟨o,e,r⟩:=st.2;⟨o,hk l (by simp) o e,r⟩⟩
      item:=λi s Q E hi st hQ=>Oq st.1 st.2 (x:=items[i]) (by simp [hi]) λh' hit' hs'=>hQ _ h' s.toks (by simp [hi]) ⟨hit',st.2.extBut hs'.extBut hne⟩ hs'
      done:=λs Q E st hE=>Os hh st.1 st.2 (by simp) hE}
  ito:=λ{h it l i} ⟨o,e,c,d⟩=>⟨o,e,λv z=>by rw [d] at z;cases z⟩
  itk:=λ{h h' it l i} ⟨o,e,r⟩ k=>⟨o,k o e,r⟩
  isk:=λ{h h' l items} ⟨o,e,r⟩ k=>⟨o,k o e,r⟩
  iso:=λ{h l items} ⟨o,e,_⟩=>⟨o,e⟩
  itn:=λh l=>⟨_,Heap.get?_push_size _ rfl,rfl,rfl⟩
  itr:=λ{A E s l items Q} x q=>wpAny_pyIter_tuple x q
end L2
end
section
namespace L2
open PySem PySem.Spec PyProof.Rows
variable {X : Cx} {pins : List (Addr × Obj)} {σ : St} {H : Hp} {s : Shared} {wr : List Addr} {h' : Heap} {p pos' : Pos} {a : Expr} {ta : TA}
open AutoSeq1 (wpAny_loadPart')
theorem Ac.yielded {tk:Nat}{T:Addr}{vs:List V}{us:List Value} (I:Ac X pins σ H s) (hf:∀b∈wr,Ba X pins H b)
  (k:∀b o,b ∉ wr->s.heap.get? b=some o->h'.get? b=some o) (hT:s.heap.objs.size<=T) (ht:IsTup h' T us.toArray) (rv:Au vs us) (hz:vs.length<=sizeLine):
  Ac X pins σ (upd H T (.tup vs)) { s with heap:=h',toks:=tk}:=by
 have hfr:H T=none:=I.hok.fresh hT
 have nT:∀b u,H b=some u->b≠T:=λb u e=>A2 e hfr
 have nW:∀b u,H b=some u->b ∉ wr:=λb u e z=>by have:=(hf b z).1;rw [e] at this;cases this
 refine I.step (g':=s.gens) (d':=s.drawn) (ch:=wr) (λb hb=>let f:=hf b hb;⟨f.2.2.2.1,f.2.1,f.2.2.2.2.1,f.2.2.2.2.2⟩) (λb o _ _ hc e _=>k b o hc e) (λb o _ _ hc e _=>⟨o.slots,k b o hc e⟩)
  (λb o hc e n=>?_) (λb o hc e=>⟨o,k b o hc e⟩) (λb xs e=>by rw [Ap (nT b _ e)];exact e) (λb o xs e=>by rw [Ap (nT b _ e)];exact e) (λb ps e=>⟨#[],by rw [Ap (nT b _ e),e];simp⟩) (λm hm=>?_) (λb u e=>?_) I.bare
 ·rw [Ap (Nat.ne_of_lt (Nat.lt_of_lt_of_le (Heap.lt_size e) hT))];exact n
 ·obtain⟨o,es,ep,ho,r⟩:=hm
  exact⟨o,es,ep,k _ o (λz=>(hf _ z).2.1 rfl) ho,r⟩
 ·by_cases hb:b=T
  ·subst hb
   rw [Ai] at e;cases e
   exact⟨hz,us,rv,ht⟩
  ·rw [Ap hb] at e
   refine(I.hok b u e).stay (λc v hc q=>k c v ?_ q) (λc q=>by rw [Ap (nT c _ q)];exact q) λc xs q=>by rw [Ap (nT c _ q)];exact q
   rcases hc with z | z
   ·rw [z];exact nW b u e
   ·exact nW c _ z
theorem Ac.ended {tk:Nat} (I:Ac X pins σ H s) (hf:∀b∈wr,Ba X pins H b)
  (k:∀b o,b ∉ wr->s.heap.get? b=some o->h'.get? b=some o):Ac X pins σ H { s with heap:=h',toks:=tk}:=by
 have nW:∀b u,H b=some u->b ∉ wr:=λb u e z=>by have:=(hf b z).1;rw [e] at this;cases this
 refine I.step (g':=s.gens) (d':=s.drawn) (ch:=wr) (λb hb=>let f:=hf b hb;⟨f.2.2.2.1,f.2.1,f.2.2.2.2.1,f.2.2.2.2.2⟩) (λb o _ _ hc e _=>k b o hc e) (λb o _ _ hc e _=>⟨o.slots,k b o hc e⟩)
  (λb o hc e n=>n) (λb o hc e=>⟨o,k b o hc e⟩) (λb xs e=>e) (λb o xs e=>e) (λb ps e=>⟨#[],by rw [e];simp⟩) (λm hm=>?_) (λb u e=>?_) I.bare
 ·obtain⟨o,es,ep,ho,r⟩:=hm
  exact⟨o,es,ep,k _ o (λz=>(hf _ z).2.1 rfl) ho,r⟩
 ·refine(I.hok b u e).stay (λc v hc q=>k c v ?_ q) (λc q=>q) λc xs q=>q
  rcases hc with z | z
  ·rw [z];exact nW b u e
  ·exact nW c _ z
def Ee {P:Program}{w:World}{K:PySem.W.Frag} (S:AV P w K) (a:Addr):It:=
 ⟨λi H=>∃xs x,S.Sq H a xs/\xs[i]? =some x,λi H v H'=>∃T,v= .ref T/\H T=none/\∀xs x,S.Sq H a xs->xs[i]? =some x->H'=upd H T (.tup [.int i,x]),λi H=>∃xs,S.Sq H a xs/\xs.length=i⟩
theorem J1 {P:Program}{w:World}{K:PySem.W.Frag} (S:AV P w K) {es:List Expr}{k:Nat}{pos:Pos} (a e it:Addr) (hei:e≠it) (hai:a≠it) (hae:a≠e):
  CG P w K (.Tuple es k pos) (Ee S a) [e,it] e (λi h=>(∃old,IsEnum h e it (i:Nat) old)/\S.It h it a i) where
 mem:=by simp
 obj:=λi h st b hb=>by
  obtain⟨⟨old,he⟩,hi⟩:=st
  rcases List.mem_cons.mp hb with z | hb
  ·rw [z];exact⟨_,he,λv z=>by
    have z':Data.fields _=Data.cell v:=z
    cases z'⟩
  ·rw [List.mem_singleton.mp hb];exact S.ito hi
 keep:=λi h h' st kk=>by
  obtain⟨⟨old,he⟩,hi⟩:=st
  exact⟨⟨old,kk e (by simp) _ he⟩,S.itk hi λo q=>kk it (by simp) o q⟩
 item:=by
  intro X hP hw hK hc i pins s σ H E I hf st hg
  subst hP hw
  obtain⟨xs,x,hq,hx⟩:=hg
  obtain⟨its,rv,is,hz⟩:=S.get hK I hq
  obtain⟨u,hu,ru⟩:=rv.get hx
  have W:=WalksT.enumerateD (S.draws X.A.in1 (I.ok.hd hc) it a hai its.toArray) e hei (by simp [hei,Ne.symm hae]) (by simp)
  have hi:i<its.toArray.size:=by have:=(List.getElem?_eq_some_iff.mp hu).1;simpa using this
  refine W.item i s _ _ hi ⟨st.1,st.2,is⟩ λT vals h1 tk hp hT htup hmid hk=>⟨_,rfl,?_⟩
  obtain⟨t,y,hy,hv⟩:=hp
  have ey:y=u:=by
   have q:its.toArray[i]? =some u:=by simpa using hu
   rw [q] at hy;exact(Option.some.inj hy).symm
  subst ey hv
  refine W.go es k pos i T { s with heap:=h1,toks:=tk} _ _ hmid λh2 st2 hk2=>?_
  have kk:∀b o,b ∉ [e,it]->s.heap.get? b=some o->h2.get? b=some o:=λb o hb q=>hk2 b o hb (hk b o hb q)
  have htup2:IsTup h2 T [Value.int i t,y].toArray:=by
   obtain⟨o,q,r⟩:=htup
   exact⟨o,hk2 T o (W.apart i T h1 hmid) q,r⟩
  exact⟨.ref T,upd H T (.tup [.int i,x]),I.yielded (tk:=tk) (λb hb=>hf b hb) kk hT htup2 (.cons ⟨t,rfl⟩ (.cons ru .nil)) (by show 2<=sizeLine;decide),rfl,
   ⟨T, rfl, I.hok.fresh hT, λys z hy hz => by
    rw [S.inj hK I hy hq,hx] at hz;cases hz;rfl⟩,⟨st2.1,st2.2.1⟩,λb hb=>by
    have hbt:b<s.heap.objs.size:=by
     rcases List.mem_cons.mp hb with z | hb
     ·rw [z];obtain⟨old,q⟩:=st.1;exact Heap.lt_size q
     ·rw [List.mem_singleton.mp hb];obtain⟨o,q,_⟩:=S.ito st.2;exact Heap.lt_size q
    rw [Ap (Nat.ne_of_lt (Nat.lt_of_lt_of_le hbt hT))];exact(hf b hb).1⟩
 done:=by
  intro X hP hw hK hc i pins s σ H E I hf st hg
  subst hP hw
  obtain⟨xs,hq,hx⟩:=hg
  obtain⟨its,rv,is,hz⟩:=S.get hK I hq
  have W:=WalksT.enumerateD (S.draws X.A.in1 (I.ok.hd hc) it a hai its.toArray) e hei (by simp [hei,Ne.symm hae]) (by simp)
  have hn:its.toArray.size=i:=by have:=rv.length;simp;omega
  rw [hn] at W
  exact W.done s _ _ ⟨st.1,st.2,is⟩ λh' tk hk=>⟨rfl,I.ended (tk:=tk) (λb hb=>hf b hb) hk⟩
 self:=λ_ _ _ _ _ st h=>by
  obtain⟨⟨old,he⟩,_⟩:=st
  exact wpAny_pyIter_enum he h
theorem Ot (l:Addr) (items:Array Value):
    Meets (Builtin.«enumerate.__new__» ⟨[.type "enumerate",.ref l],[]⟩) (λ_ R s=>s.heap.IsTuple l items/\R (.ok (.ret (.ref (s.heap.push { cls:= .type "tuple_iterator",data:= .fields #[.ref l,.int 0 0]}).objs.size)))
        { s with heap:=(s.heap.push { cls:= .type "tuple_iterator",data:= .fields #[.ref l,.int 0 0]}).push { cls:= .type "enumerate",data:= .fields #[.none,.bool false,.ref s.heap.objs.size,rawInt 0,.none,.none]}}):=
  .of_wp λprog w A R s h=>by
    obtain⟨hp,g,d,tk,os⟩:=s;obtain⟨hl0,h⟩:=h
    obtain⟨⟨c0,dct,dt,sl⟩,hl,hc0,n,hd0⟩:=id hl0;replace hc0:c0= .type "tuple" :=hc0;replace hd0:dt= .seq items n:=hd0;subst hc0 hd0
    have hsub:=sub_enumerate;have hL:Heap.IsTuple (Shared.heap ⟨hp,g,d,tk,os⟩) l items:=⟨_,hl,rfl,n,rfl⟩
    wp_walk using wpAny_loadPart' hl
    refine wpAny_stack_any λst=>wpAny_pure ?_;split
    . rename_i c _ _ _ _ _;cases(c==Value.type "enumerate")
      . wp_walk using wpAny_loadPart' hl,wpAny_pyIter_tuple hL;exact⟨_,rfl,h⟩
      . wp_walk using wpAny_loadPart' hl,wpAny_pyIter_tuple hL;exact⟨_,rfl,h⟩
    . wp_walk using wpAny_loadPart' hl,wpAny_pyIter_tuple hL;exact⟨_,rfl,h⟩
theorem Ou {prog:Program}{w:World}{A:Around}{E:Value->Shared->Prop}{s:Shared}{l:Addr}{items:Array Value}{Q:Value->Shared->Prop} (hL:s.heap.IsTuple l items)
  (h:∀h',IsEnum h' (s.heap.objs.size+1) s.heap.objs.size 0 .none->h'.IsTupleIter s.heap.objs.size l 0->h'.objs.size=s.heap.objs.size+2->(∀b o,s.heap.get? b=some o->h'.get? b=some o)->Q (.ref (s.heap.objs.size+1)) { s with heap:=h'}):
  wpAny (model prog w) A (call (.type "enumerate") [.ref l]) Q E s:=by
 refine callType_new F.called_enumerate (by decide) (F.typeCall_enumerate_1 _) (F.newCall_enumerate_1 _) (λobj=>F.args_object_init_2 obj _) F.entry_enumerate_new (Ot l items) ⟨hL,?_⟩
 have hz:(s.heap.push { cls:= .type "tuple_iterator",data:= .fields #[.ref l,.int 0 0]}).objs.size=s.heap.objs.size+1:=Heap.size_push ..
 show _/\_;rw [hz]
 have he:IsEnum ((s.heap.push { cls:= .type "tuple_iterator",data:= .fields #[.ref l,.int 0 0]}).push { cls:= .type "enumerate",data:= .fields #[.none,.bool false,.ref s.heap.objs.size,rawInt 0,.none,.none]}) (s.heap.objs.size+1) s.heap.objs.size 0 .none:=by
  have:=Heap.get?_push_size (s.heap.push { cls:= .type "tuple_iterator",data:= .fields #[.ref l,.int 0 0]}) (o:= { cls:= .type "enumerate",data:= .fields #[.none,.bool false,.ref s.heap.objs.size,rawInt 0,.none,.none]}) rfl
  rw [hz] at this;exact this
 exact⟨⟨_,he,rfl⟩,h _ he ⟨_,Heap.get?_push_of_some _ (Heap.get?_push_size _ rfl),rfl,rfl⟩ (by rw [Heap.size_push,hz]) λb o x=>Heap.get?_push_of_some _ (Heap.get?_push_of_some _ x)⟩
def FH {P:Program}{w:World}{K:PySem.W.Frag} (S:AV P w K) (ta:TA):TI:=fun σ H R=>ta σ H λvs H1=>∃a,vs=[.ref a]/\(∃xs,S.Sq H1 a xs)/\R (Ee S a) H1
theorem Ov {es:List Expr}{k:Nat}{pos:Pos} (hg:Gl X "enumerate") (hm:X.mg "enumerate"=none) (ha:PA X [a] ta) (hs:starEach [a] X.env=[(false,eval a X.env)]:=by rfl):
  PI X (.Tuple es k pos') (.Call (.Name "enumerate" p) [a] [] pos) (FH (BO X.prog X.w X.K) ta):=by
 intro pins s σ H R I h
 refine Call_ (B1 I hg hm boot_enumerate (PyProof.Rows.callWith_type1 (Am (ha pos pins s σ H _ I h) λus s1 ⟨vs,H1,I1,r1,q1⟩=>?_) hs rfl))
 obtain⟨l,e,⟨xs,hq⟩,q⟩:=q1
 subst e
 obtain⟨u,rfl,ru⟩:=r1.one
 cases ru
 obtain⟨its,rv,is,hz⟩:=I1.list hq
 obtain⟨ol,hol⟩:=(BO X.prog X.w X.K).iso is.isList
 have hlt:=Heap.lt_size hol
 refine call_enumerate_list is.isList λh' hE hI hsz hk=>?_
 have I2:Ac X pins σ H1 { s1 with heap:=h'}:=I1.kept (t':=s1.toks) hk
 refine wpAny_pyIter_enum hE ⟨s1.heap.objs.size+1,[s1.heap.objs.size+1,s1.heap.objs.size],_,_,H1,rfl,I2,J1 (BO X.prog X.w X.K) l (s1.heap.objs.size+1) s1.heap.objs.size (Nat.succ_ne_self _) (Nat.ne_of_lt hlt) (Nat.ne_of_lt (Nat.lt_succ_of_lt hlt)),⟨⟨_,hE⟩,hI⟩,λb hb=>?_,q⟩
 rcases List.mem_cons.mp hb with z | hb
 ·rw [z];exact I1.fpOk (Nat.le_succ _) (I1.hok.fresh (Nat.le_succ _))
 ·rw [List.mem_singleton.mp hb];exact I1.fpOk (Nat.le_refl _) (I1.hok.fresh (Nat.le_refl _))
theorem Ow {es:List Expr}{k:Nat}{pos:Pos} (hg:Gl X "enumerate") (hm:X.mg "enumerate"=none) (ha:PA X [a] ta) (hs:starEach [a] X.env=[(false,eval a X.env)]:=by rfl):
  PI X (.Tuple es k pos') (.Call (.Name "enumerate" p) [a] [] pos) (FH (BE X.prog X.w X.K) ta):=by
 intro pins s σ H R I h
 refine Call_ (B1 I hg hm boot_enumerate (PyProof.Rows.callWith_type1 (Am (ha pos pins s σ H _ I h) λus s1 ⟨vs,H1,I1,r1,q1⟩=>?_) hs rfl))
 obtain⟨l,e,⟨xs,hq⟩,q⟩:=q1
 subst e
 obtain⟨u,rfl,ru⟩:=r1.one
 cases ru
 obtain⟨its,rv,is,hz⟩:=I1.tuple hq
 obtain⟨ol,hol,hol2⟩:=id is
 have hlt:=Heap.lt_size hol
 refine Ou (items:=its.toArray) ⟨ol,hol,hol2⟩ λh' hE hI hsz hk=>?_
 have I2:Ac X pins σ H1 { s1 with heap:=h'}:=I1.kept (t':=s1.toks) hk
 refine wpAny_pyIter_enum hE ⟨s1.heap.objs.size+1,[s1.heap.objs.size+1,s1.heap.objs.size],_,_,H1,rfl,I2,J1 (BE X.prog X.w X.K) l (s1.heap.objs.size+1) s1.heap.objs.size (Nat.succ_ne_self _) (Nat.ne_of_lt hlt) (Nat.ne_of_lt (Nat.lt_succ_of_lt hlt)),⟨⟨_,hE⟩,hI⟩,λb hb=>?_,q⟩
 rcases List.mem_cons.mp hb with z | hb
 ·rw [z];exact I1.fpOk (Nat.le_succ _) (I1.hok.fresh (Nat.le_succ _))
 ·rw [List.mem_singleton.mp hb];exact I1.fpOk (Nat.le_refl _) (I1.hok.fresh (Nat.le_refl _))
end L2
end
section
namespace L2
open PySem PySem.Spec PyProof.Rows
variable {a1 a2 : Value} {X : Cx} {p pos' : Pos} {e1 e2 : Expr} {ta : TA}
open AutoSeq1 (wpAny_loadPart')
def Dr {P:Program}{w:World}{K:PySem.W.Frag} (S:AV P w K) (it l:Addr) (xs:Array Value) (k:Nat) (h:Heap):Prop:=S.It h it l k/\S.Is h l xs
theorem Dr.ext {P:Program}{w:World}{K:PySem.W.Frag}{S:AV P w K}{it l b:Addr}{xs:Array Value}{k:Nat}{h h':Heap} (d:Dr S it l xs k h) (e:Heap.ExtBut b h h') (h1:it≠b) (h2:l≠b):Dr S it l xs k h':=
 ⟨S.itk d.1 λo q=>e it o h1 q,S.isk d.2 λo q=>e l o h2 q⟩
abbrev Cb (h:Heap) (z TI TO:Addr) (f0 f1:Value):Prop:=h.get? z=some { cls:= .type "zip",dict:=none,data:= .fields #[f0,f1,.bool false,.ref TI,.ref TO],slots:= #[]}
def EM (h:Heap) (z TI TO:Addr):Prop:=∃f0 f1,Cb h z TI TO f0 f1/\(f0= .none\/ ∃T:Addr,f0=rawInt T)/\(f1= .bool false\/f1= .bool true)
theorem Ox {M:Model}{A:Around}{E:Value->Shared->Prop}{s:Shared}{a:Addr}{Q:Option Obj->Shared->Prop} (h:Q (s.heap.get? a) s):wpAny M A (loadIfAlive a) Q E s:=λ_ _ _=>h
theorem J2 {P:Program}{w:World}{A:Around}{E:Value->Shared->Prop}{s:Shared}{z TI TO:Addr}{Q:Bool->Shared->Prop} (hz:EM s.heap z TI TO) (h1:∀f0 f1,Cb s.heap z TI TO f0 f1->Q true s)
  (h2:∀g0,∀T:Addr,∀f1 f2,Cb s.heap z TI TO (rawInt T) f1->Cb g0 z TI TO (rawInt T) f2->(f2= .bool false\/f2= .bool true)->Heap.SameBut z s.heap g0->Q false { s with heap:=g0}):
  wpAny (model P w) A (Builtin.SmallTypes.ownedTupleIsFree (.ref z)) Q E s:=by
 obtain⟨f0,f1,hz,hf0,hf1⟩:=hz
 unfold Builtin.SmallTypes.ownedTupleIsFree
 refine wpAny_bind (wpAny_field hz rfl (x:=f0) rfl ?_)
 rcases hf0 with rfl | ⟨T,rfl⟩
 ·exact wpAny_pure (h1 _ _ hz)
 ·show wpAny _ _ (loadIfAlive T>>=_) _ _ _
  refine wpAny_bind (Ox ?_)
  cases hTa:s.heap.get? T with
  | none=>
   simp only [Option.isNone_none,if_true]
   exact wpAny_pure (h1 _ _ hz)
  | some oT=>
   simp only [Option.isNone_some,Bool.false_eq_true,if_false]
   show wpAny _ _ (field (.ref z) 1>>=_) _ _ _
   refine wpAny_bind (wpAny_field hz rfl (x:=f1) rfl ?_)
   rcases hf1 with rfl | rfl
   ·exact wpAny_bind (wpAny_setField_rec hz (by simp) λg0 hz0 hs0=>wpAny_pure (h2 g0 T _ _ hz hz0 (.inr rfl) hs0))
   ·exact wpAny_bind (wpAny_pure (wpAny_pure (h2 s.heap T _ _ hz hz (.inr rfl) ⟨rfl,λ_ _=>rfl⟩)))
structure EN (z TI TO i1 i2 l1 l2:Addr):Prop where
 TI_z:TI≠z
 TO_z:TO≠z
 TO_TI:TO≠TI
 i1_z:i1≠z
 i1_TI:i1≠TI
 i1_TO:i1≠TO
 i2_z:i2≠z
 i2_TI:i2≠TI
 i2_TO:i2≠TO
 i2_i1:i2≠i1
 l1_z:l1≠z
 l1_TO:l1≠TO
 l1_i1:l1≠i1
 l1_i2:l1≠i2
 l2_z:l2≠z
 l2_TO:l2≠TO
 l2_i1:l2≠i1
 l2_i2:l2≠i2
abbrev Bg (h:Heap) (T:Addr) (a1 a2:Value):Prop:=h.get? T=some { cls:= .type "tuple",data:= .seq #[a1,a2]}
theorem J3 {prog:Program}{w:World}{A:Around}{E:Value->Shared->Prop}{s:Shared}{T:Addr}{x:Value}{k:Nat}{Q:Unit->Shared->Prop} (hT:Bg s.heap T a1 a2)
  (h:∀h',h'.get? T=some { cls:= .type "tuple",data:= .seq ((#[a1,a2]:Array Value).setIfInBounds k x)}->Heap.SameBut T s.heap h'->Q () { s with heap:=h'}):
  wpAny (model prog w) A (updateSeq T (·.setIfInBounds k x)) Q E s:=by
 have got:=Heap.get?_update_self (Obj.mapSeq λy=>y.setIfInBounds k x) hT rfl
 exact wpAny_updateSeq hT rfl (h _ (got.trans (by simp [Obj.mapSeq])) (Heap.SameBut.update ..))
section
variable {P : Program} {w : World} {K : PySem.W.Frag} {A : Around} {E : Value -> Shared -> Prop} {s : Shared} (S1 S2 : AV P w K)
theorem J4 {z TI TO i1 i2 l1 l2:Addr}{k:Nat}{xs1 xs2:Array Value}{x1 x2 a1 a2:Value}{Q:Value->Shared->Prop} (hh:A.handled=none) (D:EN z TI TO i1 i2 l1 l2) (hz:EM s.heap z TI TO) (hTI:Bg s.heap TI (.ref i1) (.ref i2)) (hTO:Bg s.heap TO a1 a2) (h1:Dr S1 i1 l1 xs1 k s.heap) (h2:Dr S2 i2 l2 xs2 k s.heap) (hx1:xs1[k]? =some x1) (hx2:xs2[k]? =some x2)
  (hQ : ∀ h' tk, EM h' z TI TO -> (IsZip h' z TI TO (rawInt s.heap.objs.size) \/ IsZip s.heap z TI TO .none -> IsZip h' z TI TO (rawInt s.heap.objs.size)) -> (∃ a1 a2, Bg h' TO a1 a2) -> Dr S1 i1 l1 xs1 (k + 1) h' -> Dr S2 i2 l2 xs2 (k + 1) h' -> Bg h' s.heap.objs.size x1 x2 -> h'.objs.size = s.heap.objs.size + 1 ->
   (∀c o,c≠z->c≠TO->c≠i1->c≠i2->s.heap.get? c=some o->h'.get? c=some o)->Q (.ref s.heap.objs.size) { s with heap:=h',toks:=tk}):
  wpAny (model P w) A (Builtin.«zip.__next__» ⟨[.ref z],[]⟩) (λfin s'=>∃v,fin= .done (.ret v)/\Q v s') E s:=by
 have hl1:k<xs1.size:=(Array.getElem?_eq_some_iff.mp hx1).1
 have hl2:k<xs2.size:=(Array.getElem?_eq_some_iff.mp hx2).1
 have D1:=fun(A:Around) (hh:A.handled=none)=>S1.draws A hh i1 l1 D.l1_i1 xs1
 have D2:=fun(A:Around) (hh:A.handled=none)=>S2.draws A hh i2 l2 D.l2_i2 xs2
 obtain⟨f0',f1',hz',hf0',hf1'⟩:=id hz
 show wpAny _ _ (field (.ref z) 2>>=_) _ _ _;refine wpAny_bind (wpAny_field hz' rfl (x:= .bool false) rfl ?_)
 show wpAny _ _ (field (.ref z) 3>>=_) _ _ _;refine wpAny_bind (wpAny_field hz' rfl (x:= .ref TI) rfl ?_)
 refine wpAny_bind (wpAny_seqItems hTI rfl ?_);show wpAny _ _ (Builtin.SmallTypes.ownedTupleIsFree (.ref z) >>=_) _ _ _
 refine wpAny_bind (J2 hz (λf0 f1 hz=>?_) λg0 T f1 f2 hzs hz0 hf2 hs0=>?_)
 ·simp only [if_true]
  refine wpAny_bind (wpAny_rule ?_);refine wpAny_bind (wpAny_field hz rfl (x:= .ref TO) rfl ?_)
  refine wpAny_bind (wpAny_setField_rec hz (by simp) λg0 hz0 hs0=>?_);replace hz0:Cb g0 z TI TO .ellipsis f1:=hz0
  refine wpAny_bind ?_;simp only [List.zipIdx_cons,List.zipIdx_nil,List.forIn_cons,List.forIn_nil]
  refine wpAny_bind (wpAny_bind (wpAny_onRaise ?_));show wpAny _ _ (Builtin.SmallTypes.nextOf (.ref i1) >>=_) _ _ _
  refine wpAny_bind ((D1 _ hh).item k _ _ _ hl1 (Dr.ext h1 hs0.extBut D.i1_z D.l1_z) λy1 g1 tk1 hy1 hd1 hs1=>wpAny_pure ?_)
  have ex1:y1=x1:=by rw [hx1] at hy1;exact(Option.some.inj hy1).symm
  subst ex1
  have hd1':Dr S1 i1 l1 xs1 (k+1) g1:=hd1
  have hT1:Bg g1 TO a1 a2:=(hs1.extBut _ _ D.i1_TO.symm (hs0.extBut _ _ D.TO_z hTO))
  refine wpAny_bind (wpAny_seqItems hT1 rfl ?_);refine wpAny_bind (J3 hT1 λg2 hU1 hs2=>?_)
  replace hU1:Bg g2 TO y1 a2:=hU1
  refine wpAny_bind (wpAny_letGo (wpAny_pure ?_))
  refine wpAny_bind (wpAny_bind (wpAny_onRaise ?_));show wpAny _ _ (Builtin.SmallTypes.nextOf (.ref i2) >>=_) _ _ _
  refine wpAny_bind ((D2 _ hh).item k _ _ _ hl2 (Dr.ext (Dr.ext (Dr.ext h2 hs0.extBut D.i2_z D.l2_z) hs1.extBut D.i2_i1 D.l2_i1) hs2.extBut D.i2_TO D.l2_TO) λy2 g3 tk2 hy2 hd2 hs3=>wpAny_pure ?_)
  have ex2:y2=x2:=by rw [hx2] at hy2;exact(Option.some.inj hy2).symm
  subst ex2
  have hd2':Dr S2 i2 l2 xs2 (k+1) g3:=hd2
  have hT2:Bg g3 TO y1 a2:=(hs3.extBut _ _ D.i2_TO.symm hU1)
  refine wpAny_bind (wpAny_seqItems hT2 rfl ?_);refine wpAny_bind (J3 hT2 λg4 hU2 hs4=>?_)
  replace hU2:Bg g4 TO y1 y2:=hU2
  refine wpAny_bind (wpAny_letGo (wpAny_pure (wpAny_pure ?_)))
  refine wpAny_bind (wpAny_seqItems hU2 rfl ?_);refine wpAny_bind (wpAny_newTuple ?_)
  have hsz:g4.objs.size=s.heap.objs.size:=by rw [hs4.1,hs3.1,hs2.1,hs1.1,hs0.1]
  have hz5:Cb g4 z TI TO .ellipsis f1:=(hs4.extBut _ _ D.TO_z.symm (hs3.extBut _ _ D.i2_z.symm (hs2.extBut _ _ D.TO_z.symm (hs1.extBut _ _ D.i1_z.symm hz0))))
  have hk5:∀c o,c≠z->c≠TO->c≠i1->c≠i2->s.heap.get? c=some o->g4.get? c=some o:=λc o cz cTO ci1 ci2 e=>(hs4.extBut _ _ cTO (hs3.extBut _ _ ci2 (hs2.extBut _ _ cTO (hs1.extBut _ _ ci1 (hs0.extBut _ _ cz e)))))
  have he1:Dr S1 i1 l1 xs1 (k+1) g4:=(Dr.ext (Dr.ext (Dr.ext hd1' hs2.extBut D.i1_TO D.l1_TO) hs3.extBut D.i2_i1.symm D.l1_i2) hs4.extBut D.i1_TO D.l1_TO)
  have he2:Dr S2 i2 l2 xs2 (k+1) g4:=(Dr.ext hd2' hs4.extBut D.i2_TO D.l2_TO)
  have hzlt:z<g4.objs.size:=Heap.lt_size hz5
  show wpAny _ _ (Builtin.SmallTypes.ownedTupleHandOut (.ref z) (.ref g4.objs.size) >>=_) _ _ _;refine wpAny_bind ?_;unfold Builtin.SmallTypes.ownedTupleHandOut
  have hz6:Cb (g4.push { cls:= .type "tuple",data:= .seq #[y1,y2]}) z TI TO .ellipsis f1:=Heap.get?_push_of_some _ hz5
  refine wpAny_bind (wpAny_setField_rec hz6 (by simp) λga hza hsa=>?_);replace hza:Cb ga z TI TO (rawInt g4.objs.size) f1:=hza
  refine wpAny_setField_rec hza (by simp) λgb hzb hsb=>?_;replace hzb:Cb gb z TI TO (rawInt g4.objs.size) (.bool false):=hzb
  have up:∀c o,c≠z->g4.get? c=some o->gb.get? c=some o:=λc o c1 e=>hsb.extBut _ _ c1 (hsa.extBut _ _ c1 (Heap.get?_push_of_some _ e))
  have hTb:Bg gb g4.objs.size y1 y2:=hsb.extBut _ _ (Nat.ne_of_gt hzlt) (hsa.extBut _ _ (Nat.ne_of_gt hzlt) (Heap.get?_push_size _ rfl))
  have hsb8:gb.objs.size=g4.objs.size+1:=by rw [hsb.1,hsa.1,Heap.size_push]
  have upE:Heap.ExtBut z g4 gb:=λc o c1 e=>up c o c1 e
  rw [hsz] at hzb hTb hsb8
  refine wpAny_pure ⟨_,rfl,?_⟩;show Q (.ref g4.objs.size) _;rw [hsz]
  exact hQ gb _ ⟨_,_,hzb,.inr ⟨_,rfl⟩,.inl rfl⟩ (λ_=>hzb) ⟨_,_,up _ _ D.TO_z hU2⟩ (he1.ext upE D.i1_z D.l1_z) (he2.ext upE D.i2_z D.l2_z) hTb hsb8 λc o cz cTO ci1 ci2 e=>up c o cz (hk5 c o cz cTO ci1 ci2 e)
 ·simp only [Bool.false_eq_true,if_false]
  refine wpAny_bind ?_;simp only [<-Array.forIn_toList,List.forIn_cons,List.forIn_nil]
  refine wpAny_bind (wpAny_bind (wpAny_holding ?_));show wpAny _ _ (Builtin.SmallTypes.nextOf (.ref i1) >>=_) _ _ _
  refine wpAny_bind ((D1 _ hh).item k _ _ _ hl1 (Dr.ext h1 hs0.extBut D.i1_z D.l1_z) λy1 g1 tk1 hy1 hd1 hs1=>wpAny_pure ?_)
  have ex1:y1=x1:=by rw [hx1] at hy1;exact(Option.some.inj hy1).symm
  subst ex1
  have hd1':Dr S1 i1 l1 xs1 (k+1) g1:=hd1
  refine wpAny_pure ?_
  refine wpAny_bind (wpAny_bind (wpAny_holding ?_));show wpAny _ _ (Builtin.SmallTypes.nextOf (.ref i2) >>=_) _ _ _
  refine wpAny_bind ((D2 _ hh).item k _ _ _ hl2 (Dr.ext (Dr.ext h2 hs0.extBut D.i2_z D.l2_z) hs1.extBut D.i2_i1 D.l2_i1) λy2 g2 tk2 hy2 hd2 hs2=>wpAny_pure ?_)
  have ex2:y2=x2:=by rw [hx2] at hy2;exact(Option.some.inj hy2).symm
  subst ex2
  have hd2':Dr S2 i2 l2 xs2 (k+1) g2:=hd2
  refine wpAny_pure (wpAny_pure ?_)
  show wpAny _ _ (newTuple [y1,y2] >>=_) _ _ _;refine wpAny_bind (wpAny_newTuple ?_)
  have hsz:g2.objs.size=s.heap.objs.size:=by rw [hs2.1,hs1.1,hs0.1]
  have hz5:Cb g2 z TI TO (rawInt T) f2:=(hs2.extBut _ _ D.i2_z.symm (hs1.extBut _ _ D.i1_z.symm hz0))
  have hT5:Bg g2 TO a1 a2:=(hs2.extBut _ _ D.i2_TO.symm (hs1.extBut _ _ D.i1_TO.symm (hs0.extBut _ _ D.TO_z hTO)))
  have he1:Dr S1 i1 l1 xs1 (k+1) g2:=(Dr.ext hd1' hs2.extBut D.i2_i1.symm D.l1_i2)
  have he2:Dr S2 i2 l2 xs2 (k+1) g2:=hd2'
  have hTb:Bg (g2.push { cls:= .type "tuple",data:= .seq #[y1,y2]}) g2.objs.size y1 y2:=Heap.get?_push_size _ rfl
  have hb8:(g2.push { cls:= .type "tuple",data:= .seq #[y1,y2]}).objs.size=g2.objs.size+1:=Heap.size_push ..
  refine wpAny_pure ⟨_,rfl,?_⟩;show Q (.ref g2.objs.size) _
  have res:=hQ (g2.push { cls:= .type "tuple",data:= .seq #[y1,y2]}) tk2 ⟨_,_,Heap.get?_push_of_some _ hz5,.inr ⟨_,rfl⟩,hf2⟩ (λc=>c.elim id λc=>absurd (congrArg (λo:Obj=>o.data) (Option.some.inj (hzs.symm.trans c))) (by simp [rawInt])) ⟨_,_,Heap.get?_push_of_some _ hT5⟩ ⟨S1.itk he1.1 λo q=>Heap.get?_push_of_some _ q,S1.isk he1.2 λo q=>Heap.get?_push_of_some _ q⟩ ⟨S2.itk he2.1 λo q=>Heap.get?_push_of_some _ q,S2.isk he2.2 λo q=>Heap.get?_push_of_some _ q⟩ (by rw [<-hsz];exact hTb) (by rw [hb8,hsz]) λc o cz cTO ci1 ci2 e=>Heap.get?_push_of_some _ (hs2.extBut _ _ ci2 (hs1.extBut _ _ ci1 (hs0.extBut _ _ cz e)))
  rw [hsz];exact res
theorem J5 {z TI TO i1 i2 l1 l2:Addr}{k:Nat}{xs1 xs2:Array Value}{Q:Fin->Shared->Prop} (hh:A.handled=none) (D:EN z TI TO i1 i2 l1 l2) (hz:EM s.heap z TI TO) (hTI:Bg s.heap TI (.ref i1) (.ref i2)) (hTO:Bg s.heap TO a1 a2) (h1:Dr S1 i1 l1 xs1 k s.heap) (h2:Dr S2 i2 l2 xs2 k s.heap) (hend:k=xs1.size)
  (hE:∀h' tk e,(∀c o,c≠z->c≠TO->c≠i1->c≠i2->s.heap.get? c=some o->h'.get? c=some o)->(∃o,h'.get? e=some o/\o.cls= .type "StopIteration")->E (.ref e) { s with heap:=h',toks:=tk}):
  wpAny (model P w) A (Builtin.«zip.__next__» ⟨[.ref z],[]⟩) Q E s:=by
 have D1:=fun(A:Around) (hh:A.handled=none)=>S1.draws A hh i1 l1 D.l1_i1 xs1
 have D2:=fun(A:Around) (hh:A.handled=none)=>S2.draws A hh i2 l2 D.l2_i2 xs2
 obtain⟨f0',f1',hz',hf0',hf1'⟩:=id hz
 show wpAny _ _ (field (.ref z) 2>>=_) _ _ _;refine wpAny_bind (wpAny_field hz' rfl (x:= .bool false) rfl ?_)
 show wpAny _ _ (field (.ref z) 3>>=_) _ _ _;refine wpAny_bind (wpAny_field hz' rfl (x:= .ref TI) rfl ?_)
 refine wpAny_bind (wpAny_seqItems hTI rfl ?_);show wpAny _ _ (Builtin.SmallTypes.ownedTupleIsFree (.ref z) >>=_) _ _ _
 refine wpAny_bind (J2 hz (λf0 f1 hz=>?_) λg0 T f1 f2 hzs hz0 hf2 hs0=>?_)
 ·simp only [if_true]
  refine wpAny_bind (wpAny_rule ?_);refine wpAny_bind (wpAny_field hz rfl (x:= .ref TO) rfl ?_)
  refine wpAny_bind (wpAny_setField_rec hz (by simp) λg0 hz0 hs0=>?_);replace hz0:Cb g0 z TI TO .ellipsis f1:=hz0
  refine wpAny_bind ?_;simp only [List.zipIdx_cons,List.zipIdx_nil,List.forIn_cons,List.forIn_nil]
  refine wpAny_bind (wpAny_bind (wpAny_onRaise ?_));show wpAny _ _ (Builtin.SmallTypes.nextOf (.ref i1) >>=_) _ _ _
  have hcur:=(Dr.ext h1 hs0.extBut D.i1_z D.l1_z)
  subst hend
  refine wpAny_bind ((D1 _ hh).done _ _ _ hcur λge e hse he=>?_)
  obtain⟨oe,hoe,hce⟩:=he
  have hze:Cb ge z TI TO .ellipsis f1:=hse _ _ D.i1_z.symm hz0
  have hez:e≠z:=λx=>by subst x;rw [hze] at hoe;cases hoe;simp at hce
  exact wpAny_setField_rec hze (by simp) λgf _ hsf=>hE gf _ e (λc o cz cTO ci1 ci2 x=>hsf.extBut _ _ cz (hse _ _ ci1 (hs0.extBut _ _ cz x))) ⟨oe,hsf.extBut _ _ hez hoe,hce⟩
 ·simp only [Bool.false_eq_true,if_false]
  refine wpAny_bind ?_;simp only [<-Array.forIn_toList,List.forIn_cons,List.forIn_nil]
  refine wpAny_bind (wpAny_bind (wpAny_holding ?_));show wpAny _ _ (Builtin.SmallTypes.nextOf (.ref i1) >>=_) _ _ _
  have hcur:=(Dr.ext h1 hs0.extBut D.i1_z D.l1_z)
  subst hend
  refine wpAny_bind ((D1 _ hh).done _ _ _ hcur λge e hse he=>?_)
  obtain⟨oe,hoe,hce⟩:=he
  exact hE ge _ e (λc o cz cTO ci1 ci2 x=>hse _ _ ci1 (hs0.extBut _ _ cz x)) ⟨oe,hoe,hce⟩
end
abbrev FI {P:Program}{w:World}{K:PySem.W.Frag} (S1 S2:AV P w K) (h:Heap) (l1 l2:Addr):Heap:=(h).push (S1.obj l1)
abbrev FJ {P:Program}{w:World}{K:PySem.W.Frag} (S1 S2:AV P w K) (h:Heap) (l1 l2:Addr):Heap:=(FI S1 S2 h l1 l2).push (S2.obj l2)
abbrev FK {P:Program}{w:World}{K:PySem.W.Frag} (S1 S2:AV P w K) (h:Heap) (l1 l2:Addr):Heap:=(FJ S1 S2 h l1 l2).push { cls:= .type "tuple",data:= .seq #[.ref h.objs.size,.ref (FI S1 S2 h l1 l2).objs.size]}
abbrev FL {P:Program}{w:World}{K:PySem.W.Frag} (S1 S2:AV P w K) (h:Heap) (l1 l2:Addr):Heap:=(FK S1 S2 h l1 l2).push { cls:= .type "tuple",data:= .seq #[.none,.none]}
abbrev C0 {P:Program}{w:World}{K:PySem.W.Frag} (S1 S2:AV P w K) (h:Heap) (l1 l2:Addr):Heap:=(FL S1 S2 h l1 l2).push { cls:= .type "zip",data:= .fields #[.none,.bool false,.bool false,.ref (FJ S1 S2 h l1 l2).objs.size,.ref (FK S1 S2 h l1 l2).objs.size]}
def DT {P:Program}{w:World}{K:PySem.W.Frag} (S1 S2:AV P w K):Prop:=∀(l1 l2:Addr) (xs1 xs2:Array Value),
  Meets (Builtin.«zip.__new__» ⟨[.type "zip",.ref l1,.ref l2],[]⟩) (λ_ R s=>S1.Is s.heap l1 xs1/\S2.Is s.heap l2 xs2/\R (.ok (.ret (.ref (FL S1 S2 s.heap l1 l2).objs.size))) { s with heap:=C0 S1 S2 s.heap l1 l2})
theorem J6 {X:Cx}{p pos:Pos}{e1 e2:Expr}{ta:TA} (S1 S2:AV X.prog X.w X.K) (zn:DT S1 S2) (hg:Gl X "zip") (hm:X.mg "zip"=none) (ha:PA X [e1,e2] ta) (hs1:starEach [e1,e2] X.env=[(false,eval e1 X.env),(false,eval e2 X.env)]) (hs2:starEach [e2] X.env=[(false,eval e2 X.env)])
  {pins:List (Addr×Obj)}{s:Shared}{σ:St}{H:Hp}{R:Addr->Addr->Hp->Prop} (I:Ac X pins σ H s) (h:ta σ H λvs H1=>∃l1 l2,vs=[.ref l1,.ref l2]/\(∃xs,S1.Sq H1 l1 xs)/\(∃xs,S2.Sq H1 l2 xs)/\R l1 l2 H1):
  wpAny (model X.prog X.w) X.A (eval (.Call (.Name "zip" p) [e1,e2] [] pos) X.env) (λv s1=>∃l1 l2 H1,∃m:Nat,v= .ref (m+4)/\R l1 l2 H1/\Ac X pins σ H1 s1/\IsZip s1.heap (m+4) (m+2) (m+3) .none/\Bg s1.heap (m+2) (.ref m) (.ref (m+1))/\Bg s1.heap (m+3) .none .none/\S1.It s1.heap m l1 0/\S2.It s1.heap (m+1) l2 0/\l1<m/\l2<m/\(∀b,m<=b->Ba X pins H1 b)/\s1.heap.objs.size=m+5) X.xe s:=by
 refine Call_ (B1 I hg hm boot_zip (PyProof.Rows.callWith_type1 (Am (ha pos pins s σ H _ I h) λus s1 ⟨vs,H1,I1,r1,q1⟩=>?_) (by rw [hs1,hs2]) (by rw [hs2];rfl)))
 obtain⟨l1,l2,e,⟨xs1,hq1⟩,⟨xs2,hq2⟩,q⟩:=q1
 subst e
 rcases r1 with _ | ⟨ru1,r1⟩
 rcases r1 with _ | ⟨ru2,r1⟩
 cases r1
 cases ru1;cases ru2
 obtain⟨its1,rv1,is1,_⟩:=S1.get rfl I1 hq1
 obtain⟨its2,rv2,is2,_⟩:=S2.get rfl I1 hq2
 obtain⟨o1,ho1⟩:=S1.iso is1
 have hl1:=Heap.lt_size ho1
 obtain⟨o2,ho2⟩:=S2.iso is2
 have hl2:=Heap.lt_size ho2
 refine callType_new F.called_zip (by decide) (F.typeCall_zip_2 _ _) (F.newCall_zip_2 _ _) (λobj=>F.args_object_init_3 obj _ _) F.entry_zip_new (zn l1 l2 its1.toArray its2.toArray) ⟨is1,is2,?_⟩
 have z1:(FI S1 S2 s1.heap l1 l2).objs.size=s1.heap.objs.size+1:=by rw [Heap.size_push]
 have z2:(FJ S1 S2 s1.heap l1 l2).objs.size=s1.heap.objs.size+2:=by rw [Heap.size_push,z1]
 have z3:(FK S1 S2 s1.heap l1 l2).objs.size=s1.heap.objs.size+3:=by rw [Heap.size_push,z2]
 have z4:(FL S1 S2 s1.heap l1 l2).objs.size=s1.heap.objs.size+4:=by rw [Heap.size_push,z3]
 have zz:(C0 S1 S2 s1.heap l1 l2).objs.size=s1.heap.objs.size+5:=by rw [Heap.size_push,z4]
 have gz:(C0 S1 S2 s1.heap l1 l2).get? (FL S1 S2 s1.heap l1 l2).objs.size=some _:=Heap.get?_push_size _ rfl
 have gO:(C0 S1 S2 s1.heap l1 l2).get? (FK S1 S2 s1.heap l1 l2).objs.size=some _:=Heap.get?_push_of_some _ (Heap.get?_push_size _ rfl)
 have gI:(C0 S1 S2 s1.heap l1 l2).get? (FJ S1 S2 s1.heap l1 l2).objs.size=some _:=Heap.get?_push_of_some _ (Heap.get?_push_of_some _ (Heap.get?_push_size _ rfl))
 have g1:S1.It (C0 S1 S2 s1.heap l1 l2) s1.heap.objs.size l1 0:=S1.itk (S1.itn _ _) λo q=>Heap.get?_push_of_some _ (Heap.get?_push_of_some _ (Heap.get?_push_of_some _ (Heap.get?_push_of_some _ (q))))
 have g2:S2.It (C0 S1 S2 s1.heap l1 l2) (FI S1 S2 s1.heap l1 l2).objs.size l2 0:=S2.itk (S2.itn _ _) λo q=>Heap.get?_push_of_some _ (Heap.get?_push_of_some _ (Heap.get?_push_of_some _ (q)))
 have kk:∀b o,s1.heap.get? b=some o->(C0 S1 S2 s1.heap l1 l2).get? b=some o:=λb o x=>Heap.get?_push_of_some _ (Heap.get?_push_of_some _ (Heap.get?_push_of_some _ (Heap.get?_push_of_some _ (Heap.get?_push_of_some _ (x)))))
 show _/\_
 rw [z2,z3,z4] at gz;rw [z3] at gO;rw [z1,z2] at gI;rw [z4]
 rw [z1] at g2
 generalize C0 S1 S2 s1.heap l1 l2=hE at g1 g2 gI gO gz kk zz ⊢
 have I2:Ac X pins σ H1 { s1 with heap:=hE}:=I1.kept (t':=s1.toks) kk
 exact⟨⟨_,gz,rfl⟩,l1,l2,H1,s1.heap.objs.size,rfl,q,I2,gz,gI,gO,g1,g2,hl1,hl2,λb hb=>I1.fpOk hb (I1.hok.fresh hb),zz⟩
set_option maxHeartbeats 8000000 in
theorem Oy (P:Program) (w:World) (K:PySem.W.Frag):DT (BE P w K) (BO P w K):=λl1 l2 xs1 xs2=>
 .of_wp λprog w A R s h=>by
  obtain⟨hp,g,d,tk,os⟩:=s;obtain⟨hl1,hl2,h⟩:=h;have hsub:=sub_zip
  have hL1:Heap.IsTuple (Shared.heap ⟨hp,g,d,tk,os⟩) l1 xs1:=hl1
  have hL2:Heap.IsList (Shared.heap ⟨(hp).push { cls:= .type "tuple_iterator",data:= .fields #[.ref l1,.int 0 0]},g,d,tk,os⟩) l2 xs2:=Heap.IsList.push (hl2) _
  wp_walk using wpAny_pyIter_tuple hL1,wpAny_pyIter_list hL2
  exact⟨_,rfl,h⟩
set_option maxHeartbeats 8000000 in
theorem Oz (P:Program) (w:World) (K:PySem.W.Frag):DT (BE P w K) (BE P w K):=λl1 l2 xs1 xs2=>
 .of_wp λprog w A R s h=>by
  obtain⟨hp,g,d,tk,os⟩:=s;obtain⟨hl1,hl2,h⟩:=h;have hsub:=sub_zip
  have hL1:Heap.IsTuple (Shared.heap ⟨hp,g,d,tk,os⟩) l1 xs1:=hl1
  have hL2:Heap.IsTuple (Shared.heap ⟨(hp).push { cls:= .type "tuple_iterator",data:= .fields #[.ref l1,.int 0 0]},g,d,tk,os⟩) l2 xs2:=Heap.IsTuple.push (hl2) _
  wp_walk using wpAny_pyIter_tuple hL1,wpAny_pyIter_tuple hL2
  exact⟨_,rfl,h⟩
set_option maxHeartbeats 8000000 in
theorem OA (P:Program) (w:World) (K:PySem.W.Frag):DT (BO P w K) (BO P w K):=λl1 l2 xs1 xs2=>
 .of_wp λprog w A R s h=>by
  obtain⟨hp,g,d,tk,os⟩:=s;obtain⟨hl1,hl2,h⟩:=h;have hsub:=sub_zip
  have hL1:Heap.IsList (Shared.heap ⟨hp,g,d,tk,os⟩) l1 xs1:=hl1
  have hL2:Heap.IsList (Shared.heap ⟨(hp).push { cls:= .type "list_iterator",data:= .fields #[.ref l1,.int 0 0]},g,d,tk,os⟩) l2 xs2:=Heap.IsList.push (hl2) _
  wp_walk using wpAny_pyIter_list hL1,wpAny_pyIter_list hL2
  exact⟨_,rfl,h⟩
theorem J7 {n l1 l2:Nat} (h1:l1<n) (h2:l2<n):EN (n+4) (n+2) (n+3) n (n+1) l1 l2:=by constructor<;>intro z<;>(have z':=z;revert z';intro z';try (change (_:Nat)=_ at z');omega)
def Dn {P:Program}{w:World}{K:PySem.W.Frag} (S1 S2:AV P w K) (a b:Addr):It:=
 ⟨λi H=>∃xs ys x y,S1.Sq H a xs/\S2.Sq H b ys/\xs[i]? =some x/\ys[i]? =some y,λi H v H'=>∃T,v= .ref T/\H T=none/\∀xs ys x y,S1.Sq H a xs->S2.Sq H b ys->xs[i]? =some x->ys[i]? =some y->H'=upd H T (.tup [x,y]),
  λi H=>∃xs ys,S1.Sq H a xs/\S2.Sq H b ys/\xs.length=i⟩
theorem OB {P:Program}{w:World}{K:PySem.W.Frag} (S1 S2:AV P w K) {es:List Expr}{k:Nat}{pos:Pos} (z TI TO i1 i2 l1 l2:Addr) (D:EN z TI TO i1 i2 l1 l2):
  CG P w K (.Tuple es k pos) (Dn S1 S2 l1 l2) [z,TI,TO,i1,i2] z (λi h=>IsZip h z TI TO .none/\Bg h TI (.ref i1) (.ref i2)/\(∃a b,Bg h TO a b)/\S1.It h i1 l1 i/\S2.It h i2 l2 i) where
 mem:=by simp
 obj:=λi h st b hb=>by
  obtain⟨hz,hTI,⟨a,b',hTO⟩,h1,h2⟩:=st
  simp only [List.mem_cons,List.not_mem_nil,or_false] at hb
  rcases hb with e | e | e | e | e<;>rw [e]
  ·exact⟨_,hz,λv q=>by have q':Data.fields _=Data.cell v:=q;cases q'⟩
  ·exact⟨_,hTI,λv q=>by have q':Data.seq _ _=Data.cell v:=q;cases q'⟩
  ·exact⟨_,hTO,λv q=>by have q':Data.seq _ _=Data.cell v:=q;cases q'⟩
  ·exact S1.ito h1
  ·exact S2.ito h2
 keep:=λi h h' st kk=>by
  obtain⟨hz,hTI,⟨a,b',hTO⟩,h1,h2⟩:=st
  exact⟨kk z (by simp) _ hz,kk TI (by simp) _ hTI,⟨a,b',kk TO (by simp) _ hTO⟩,S1.itk h1 λo q=>kk i1 (by simp) o q,S2.itk h2 λo q=>kk i2 (by simp) o q⟩
 item:=by
  intro X hP hw hK hc i pins s σ H E I hf st hg
  subst hP hw
  obtain⟨xs,ys,x,y,hq1,hq2,hx,hy⟩:=hg
  obtain⟨its1,rv1,is1,hz1⟩:=S1.get hK I hq1
  obtain⟨its2,rv2,is2,hz2⟩:=S2.get hK I hq2
  obtain⟨u1,hu1,ru1⟩:=rv1.get hx
  obtain⟨u2,hu2,ru2⟩:=rv2.get hy
  obtain⟨hz,hTI,⟨a,b',hTO⟩,h1,h2⟩:=st
  have hh:=I.ok.hd hc
  have hT:s.TypeIs (.ref z) "zip" :=⟨_,hz,rfl⟩
  unfold pyNext
  refine wpAny_bind (wpAny_attempt (wpAny_callSpecial?_slot (name:=Str.ofString "__next__") hT F.slot_zip_next (wpAny_call_entry F.slot_zip_next hT F.entry_zip_next
   (J4 S1 S2 (x1:=u1) (x2:=u2) hh D ⟨_,_,hz,.inl rfl,.inl rfl⟩ hTI hTO ⟨h1,is1⟩ ⟨h2,is2⟩ (by simpa using hu1) (by simpa using hu2) λh' tk _ az a2 a3 a4 a5 a6 hk=>wpAny_pure ⟨_,rfl,?_⟩) (F.args_zip_next_1 _))))
  obtain⟨b1,b2,a2⟩:=a2
  refine wpAny_letOwnedTupleGo_zip (az (.inr hz)) λh'' z1 sb=>?_
  have kk:∀b o,b ∉ [z,TI,TO,i1,i2]->s.heap.get? b=some o->h''.get? b=some o:=λb o hb q=>sb.extBut b o (λe=>hb (by simp [e])) (hk b o (λe=>hb (by simp [e])) (λe=>hb (by simp [e])) (λe=>hb (by simp [e])) (λe=>hb (by simp [e])) q)
  have zl:z<s.heap.objs.size:=Heap.lt_size hz
  have ht:IsTup h'' s.heap.objs.size [u1,u2].toArray:=⟨_,sb.extBut _ _ (Nat.ne_of_gt zl) a5,rfl,_,rfl⟩
  exact⟨.ref s.heap.objs.size,upd H s.heap.objs.size (.tup [x,y]),I.yielded (tk:=tk) (λb hb=>hf b hb) kk (Nat.le_refl _) ht (.cons ru1 (.cons ru2 .nil)) (by show 2<=sizeLine;decide),rfl,
   ⟨_, rfl, I.hok.fresh (Nat.le_refl _), λxs' ys' x' y' e1 e2 e3 e4 => by
    rw [S1.inj hK I e1 hq1,hx] at e3;rw [S2.inj hK I e2 hq2,hy] at e4;cases e3;cases e4;rfl⟩,
   ⟨z1, sb.extBut _ _ D.TI_z (hk _ _ D.TI_z D.TO_TI.symm D.i1_TI.symm D.i2_TI.symm hTI), ⟨_, _, sb.extBut _ _ D.TO_z a2⟩, S1.itk a3.1 λo q => sb.extBut _ o D.i1_z q, S2.itk a4.1 λo q => sb.extBut _ o D.i2_z q⟩, λb hb => by
    have hbt:b<s.heap.objs.size:=by
     simp only [List.mem_cons,List.not_mem_nil,or_false] at hb
     rcases hb with e | e | e | e | e<;>rw [e]
     ·exact zl
     ·exact Heap.lt_size hTI
     ·exact Heap.lt_size hTO
     ·obtain⟨o,q,_⟩:=S1.ito h1;exact Heap.lt_size q
     ·obtain⟨o,q,_⟩:=S2.ito h2;exact Heap.lt_size q
    rw [Ap (Nat.ne_of_lt hbt)];exact(hf b hb).1⟩
 done:=by
  intro X hP hw hK hc i pins s σ H E I hf st hg
  subst hP hw
  obtain⟨xs,ys,hq1,hq2,hend⟩:=hg
  obtain⟨its1,rv1,is1,hz1⟩:=S1.get hK I hq1
  obtain⟨its2,rv2,is2,hz2⟩:=S2.get hK I hq2
  obtain⟨hz,hTI,⟨a,b',hTO⟩,h1,h2⟩:=st
  have hh:=I.ok.hd hc
  have hT:s.TypeIs (.ref z) "zip" :=⟨_,hz,rfl⟩
  have e1:=rv1.length
  have e2:=rv2.length
  unfold pyNext
  refine wpAny_bind (wpAny_attempt (wpAny_callSpecial?_slot (name:=Str.ofString "__next__") hT F.slot_zip_next (wpAny_call_entry F.slot_zip_next hT F.entry_zip_next
   (J5 S1 S2 hh D ⟨_,_,hz,.inl rfl,.inl rfl⟩ hTI hTO ⟨h1,is1⟩ ⟨h2,is2⟩ (by simp;omega) λh' tk e hk he=>?_) (F.args_zip_next_1 _))))
  obtain⟨o,ho,hco⟩:=he
  refine wpAny_bind (wpAny_isInstance (T:="StopIteration") (b:=true) ⟨o,ho,hco⟩ isSubtype_stop ?_)
  exact wpAny_pure ⟨rfl,I.ended (wr:=[z,TI,TO,i1,i2]) (tk:=tk) (λb hb=>hf b hb) λb o hb q=>hk b o (λe=>hb (by simp [e])) (λe=>hb (by simp [e])) (λe=>hb (by simp [e])) (λe=>hb (by simp [e])) q⟩
 self:=λ_ _ _ _ _ st h=>wpAny_pyIter_zip st.1 h
def Do {P:Program}{w:World}{K:PySem.W.Frag} (S1 S2:AV P w K) (ta:TA):TI:=fun σ H R=>ta σ H λvs H1=>∃a b,vs=[.ref a,.ref b]/\(∃xs,S1.Sq H1 a xs)/\(∃ys,S2.Sq H1 b ys)/\R (Dn S1 S2 a b) H1
theorem HU {es:List Expr}{k:Nat}{pos:Pos} (S1 S2:AV X.prog X.w X.K) (zn:DT S1 S2) (hg:Gl X "zip") (hm:X.mg "zip"=none) (ha:PA X [e1,e2] ta)
  (hs:starEach [e1,e2] X.env=[(false,eval e1 X.env),(false,eval e2 X.env)]) (hs2:starEach [e2] X.env=[(false,eval e2 X.env)]):PI X (.Tuple es k pos') (.Call (.Name "zip" p) [e1,e2] [] pos) (Do S1 S2 ta):=by
 intro pins s σ H R I h
 refine Am (J6 S1 S2 zn (R:=λl1 l2 H1=>R (Dn S1 S2 l1 l2) H1) hg hm ha hs hs2 I h) λv s1 ⟨l1,l2,H1,m,e,q,I1,gz,gI,gO,g1,g2,h1,h2,fr,_⟩=>?_
 subst e
 exact wpAny_pyIter_zip gz ⟨_,[m+4,m+2,m+3,m,m+1],_,_,H1,rfl,I1,OB S1 S2 _ _ _ _ _ l1 l2 (J7 h1 h2),⟨gz,gI,⟨_,_,gO⟩,g1,g2⟩,λb hb=>fr b (by
  simp only [List.mem_cons,List.not_mem_nil,or_false] at hb
  rcases hb with e | e | e | e | e<;>rw [e]<;>first | exact Nat.le_refl _ | exact Nat.le_add_right _ _),q⟩
theorem OC {es:List Expr}{k:Nat}{pos:Pos} (hg:Gl X "zip") (hm:X.mg "zip"=none) (ha:PA X [e1,e2] ta)
  (hs:starEach [e1,e2] X.env=[(false,eval e1 X.env),(false,eval e2 X.env)]:=by rfl) (hs2:starEach [e2] X.env=[(false,eval e2 X.env)]:=by rfl):PI X (.Tuple es k pos') (.Call (.Name "zip" p) [e1,e2] [] pos) (Do (BE X.prog X.w X.K) (BO X.prog X.w X.K) ta):=HU _ _ (Oy _ _ _) hg hm ha hs hs2
theorem OD {es:List Expr}{k:Nat}{pos:Pos} (hg:Gl X "zip") (hm:X.mg "zip"=none) (ha:PA X [e1,e2] ta)
  (hs:starEach [e1,e2] X.env=[(false,eval e1 X.env),(false,eval e2 X.env)]:=by rfl) (hs2:starEach [e2] X.env=[(false,eval e2 X.env)]:=by rfl):PI X (.Tuple es k pos') (.Call (.Name "zip" p) [e1,e2] [] pos) (Do (BE X.prog X.w X.K) (BE X.prog X.w X.K) ta):=HU _ _ (Oz _ _ _) hg hm ha hs hs2
end L2
end
section
namespace L2
open PySem PySem.Spec PyProof.Rows
variable {C : Int -> Int -> Prop} {y : V} {H : Hp} {Q : VK} {op op' : CmpOp} {r' : R2}
section
variable {X : Cx} {e a b c : Expr} {es rest : List Expr} {ta tb tc te : TE} {pos p : Pos} {tA tB' : TT} {t u : TS}
theorem PE.weak {t t':TE} (h:PE X e t) (w:∀σ H Q,t' σ H Q->t σ H Q):PE X e t':=λpins s σ H Q I q=>h pins s σ H Q I (w σ H Q q)
def FM (i:Nat):TE:=fun σ H Q=>match σ[i]? with | some (some v)=>Q v H | _=>False
theorem cv (i:Nat) {x:Str}{pos:Pos} (hN:X.N[i]? =some x:=by rfl) (hv:ED X.env.scope x:=by first | exact Or.inl rfl | exact Or.inr (Or.inl rfl) | exact Or.inr (Or.inr rfl)) (hd:(x==("__debug__" :Str))=false:=by decide)
  (hcd:(x==("__classdict__" :Str))=false:=by decide):PE X (.Name x pos) (FM i):=(Jh hN hv hd hcd).weak fun σ H Q q=>by
 unfold FM at q
 split at q
 ·exact⟨_,by assumption,q⟩
 ·exact q.elim
end
section
variable {X : Cx} {e a b c : Expr} {es rest : List Expr} {ta tb tc te : TE} {pos p : Pos}
theorem OE {g:Int->Int->V}{x:V} (h:match x,y with | .int i,.int j=>C i j/\Q (g i j) H | _,_=>False):rI C g x y H Q:=by
 split at h
 ·exact⟨_,_,rfl,rfl,h⟩
 ·exact h.elim
theorem OF {g:Int->Int->V}{x:V} (h:match x,y with | .int i,.int j=>Q (g i j) H | _,_=>False):CI g x y H Q:=by
 split at h
 ·exact⟨_,_,rfl,rfl,h⟩
 ·exact h.elim
def mI (C:Int->Int->Prop) (g:Int->Int->V):R2:=λx y H Q=>match x,y with | .int i,.int j=>C i j/\Q (g i j) H | _,_=>False
def mI0 (g:Int->Int->V):R2:=λx y H Q=>match x,y with | .int i,.int j=>Q (g i j) H | _,_=>False
theorem OpR.mI {f:Value->Value->Sem Value}{g:Int->Int->V} (h:OpR X f (rI C g)):OpR X f (L2.mI C g):=λpins s σ H x y v u Q I rx ry q=>h pins s σ H x y v u Q I rx ry (OE q)
theorem OpR.mI0 {f:Value->Value->Sem Value}{g:Int->Int->V} (h:OpR X f (CI g)):OpR X f (L2.mI0 g):=λpins s σ H x y v u Q I rx ry q=>h pins s σ H x y v u Q I rx ry (OF q)
theorem AO:OpR X (binaryOp .Add) (mI0 λi j=> .int (i+j)):=op_add.mI0
theorem Bh:OpR X (binaryOp .Sub) (mI0 λi j=> .int (i-j)):=op_sub.mI0
theorem Dp:OpR X (binaryOp .Mult) (mI CMul λi j=> .int (i * j)):=op_mul.mI
theorem FN:OpR X (binaryOp .FloorDiv) (mI Hx λi j=> .int (i / j)):=op_fdiv.mI
theorem Ef:OpR X (binaryOp .Mod) (mI (λ_ j=>0<j) λi j=> .int (i % j)):=op_mod.mI
theorem HV:OpR X (binaryOp .Pow) (mI Js λi j=> .int (i ^ j.toNat)):=op_pow.mI
theorem DU:OpR X (compareOp .Lt) (mI0 λi j=> .bl (decide (i<j))):=op_lt.mI0
theorem Dq:OpR X (compareOp .LtE) (mI0 λi j=> .bl (decide (i<=j))):=op_le.mI0
theorem J8:OpR X (compareOp .Gt) (mI0 λi j=> .bl (decide (j<i))):=op_gt.mI0
theorem J9:OpR X (compareOp .GtE) (mI0 λi j=> .bl (decide (j<=i))):=op_ge.mI0
def mB (x:V) (Q:Bool->Prop):Prop:=match x with | .bl c=>Q c | _=>False
end
structure Mono (t:TE):Prop where
 m:∀ {σ H}{Q Q':VK},t σ H Q->(∀v H',Q v H'->Q' v H')->t σ H Q'
section
variable {X : Cx} {e a b c : Expr} {es rest : List Expr} {te : TE} {pos p : Pos}
def cB (t:TE):TT:=fun σ H Q=>t σ H λx H1=>match x with | .bl c=>Q c H1 | _=>False
theorem Cc {t:TE} (h:PE X e t) (he:∀whole,isTrue e X.env whole=(do let v<-whole;standAt e.pos;holding [v] (truthy v)):=by intro _;rfl):PT X e (cB t):=by
 intro pins s σ H Q I hw
 refine isTrue_plain (Am (h pins s σ H _ I hw) λv s1 ⟨x,H1,I1,r1,q1⟩=>?_) (he _)
 dsimp only at q1
 split at q1
 ·cases r1;exact wpAny_truthy_bool ⟨H1,I1,q1⟩
 ·exact q1.elim
theorem A4 {op:CmpOp}{r:R2}{ta tb:TE} (ho:OpR X (compareOp op) r) (ha:PE X a ta) (hb:PE X b tb) (hm:behindInMarks op b=false):PT X (.Compare a [op] [b] pos) (cB (Fq r ta tb)):=by
 intro pins s σ H Q I h
 refine wpAny_isTrue_Compare1 (Am (ha pins s σ H _ I h) λv s1 ⟨x,H1,I1,r1,q1⟩=>Am (hb pins s1 σ H1 _ I1 q1) λu s2 ⟨y,H2,I2,r2,q2⟩=>
  Am (ho pins s2 σ H2 x y v u _ I2 r1 r2 q2) λc s3 ⟨z,H3,I3,r3,q3⟩=>?_) hm
 dsimp only at q3
 split at q3
 ·cases r3;exact wpAny_truthy_bool ⟨H3,I3,q3⟩
 ·exact q3.elim
def Ka (r r':R2) (ta tb tc:TE):TE:=fun σ H Q=>ta σ H λx H1=>tb σ H1 λy H2=>r x y H2 λz H3=>match z with | .bl k=>br k (tc σ H3 λw' H4=>r' y w' H4 Q) (Q (.bl false) H3) | _=>False
theorem Kb {r:R2}{ta tb tc:TE} (ho:OpR X (compareOp op) r) (ho':OpR X (compareOp op') r') (ha:PE X a ta) (hb:PE X b tb) (hc:PE X c tc)
  (hm:lastMarks [op,op'] [b,c]=false:=by with_unfolding_all rfl):PE X (.Compare a [op,op'] [b,c] pos) (Ka r r' ta tb tc):=by
 intro pins s σ H Q I h
 refine Compare_chain (Am (ha pins s σ H _ I h) λv s1 ⟨x,H1,I1,r1,q1⟩=>chain_link (Am (hb pins s1 σ H1 _ I1 q1) λu s2 ⟨y,H2,I2,r2,q2⟩=>
  Am (ho pins s2 σ H2 x y v u _ I2 r1 r2 q2) λd s3 ⟨z,H3,I3,r3,q3⟩=>?_)) hm
 dsimp only at q3
 split at q3
 ·rename_i k
  cases r3
  refine wpAny_truthy_bool ?_
  cases k with
  | false=>exact ite_ff ⟨.bl false,H3,I3,rfl,q3.2 rfl⟩
  | true=>exact ite_tt (chain_last (Am (hc pins s3 σ H3 _ I3 (q3.1 rfl)) λw' s4 ⟨z',H4,I4,r4,q4⟩=>ho' pins s4 σ H4 y z' u w' Q I4 r2 r4 q4))
 ·exact q3.elim
theorem OG {r:R2}{ta tb tc:TE} (ho:OpR X (compareOp op) r) (ho':OpR X (compareOp op') r') (ha:PE X a ta) (hb:PE X b tb) (hc:PE X c tc)
  (hm:lastMarks [op,op'] [b,c]=false:=by with_unfolding_all rfl):PT X (.Compare a [op,op'] [b,c] pos) (cB (Ka r r' ta tb tc)):=by
 intro pins s σ H Q I h
 refine isTrue_chain (Am (ha pins s σ H _ I h) λv s1 ⟨x,H1,I1,r1,q1⟩=>test_link (Am (hb pins s1 σ H1 _ I1 q1) λu s2 ⟨y,H2,I2,r2,q2⟩=>
  Am (ho pins s2 σ H2 x y v u _ I2 r1 r2 q2) λd s3 ⟨z,H3,I3,r3,q3⟩=>?_)) hm
 dsimp only at q3
 split at q3
 ·rename_i k
  cases r3
  refine wpAny_truthy_bool ?_
  cases k with
  | false=>exact ite_ff ⟨H3,I3,q3.2 rfl⟩
  | true=>
   refine ite_tt (test_last (Am (hc pins s3 σ H3 _ I3 (q3.1 rfl)) λw' s4 ⟨z',H4,I4,r4,q4⟩=>Am (ho' pins s4 σ H4 y z' u w' _ I4 r2 r4 q4) λd' s5 ⟨z2,H5,I5,r5,q5⟩=>?_))
   dsimp only at q5
   split at q5
   ·cases r5;exact wpAny_truthy_bool ⟨H5,I5,q5⟩
   ·exact q5.elim
 ·exact q3.elim
def OH (t u:TT):TT:=fun σ H Q=>t σ H λc H1=>br c (u σ H1 Q) (Q false H1)
def OI (t u:TT):TT:=fun σ H Q=>t σ H λc H1=>br c (Q true H1) (u σ H1 Q)
theorem FO {tA tB':TT} (ha:PT X a tA) (hb:PW X (.BoolOp .And (b::rest) pos) tB'):PW X (.BoolOp .And (a::b::rest) pos) (OH tA tB'):=by
 intro wh pins s σ H Q I h
 refine isTrue_and (Am (ha pins s σ H _ I h) λc s1 ⟨H1,I1,q1⟩=>?_)
 cases c with
 | true=>exact hb wh pins s1 σ H1 Q I1 (q1.1 rfl)
 | false=>exact⟨H1,I1,q1.2 rfl⟩
theorem Kc {tA tB':TT} (ha:PT X a tA) (hb:PW X (.BoolOp .Or (b::rest) pos) tB'):PW X (.BoolOp .Or (a::b::rest) pos) (OI tA tB'):=by
 intro wh pins s σ H Q I h
 refine isTrue_or (Am (ha pins s σ H _ I h) λc s1 ⟨H1,I1,q1⟩=>?_)
 cases c with
 | true=>exact⟨H1,I1,q1.1 rfl⟩
 | false=>exact hb wh pins s1 σ H1 Q I1 (q1.2 rfl)
def OJ (ta tb:TE):TE:=fun σ H Q=>ta σ H λx H1=>match x with | .bl c=>br c (tb σ H1 Q) (Q (.bl false) H1) | _=>False
def OK (ta:TE):TE:=fun σ H Q=>ta σ H λx H1=>match x with | .bl c=>Q (.bl (!c)) H1 | _=>False
theorem Bs {ta tb:TE} (ha:PE X a ta) (hb:PE X (.BoolOp .And (b::rest) pos) tb):PE X (.BoolOp .And (a::b::rest) pos) (OJ ta tb):=by
 intro pins s σ H Q I h
 refine BoolOp_and (Am (ha pins s σ H _ I h) λv s1 ⟨x,H1,I1,r1,q1⟩=>?_)
 dsimp only at q1
 split at q1
 ·rename_i c
  cases r1
  refine wpAny_truthy_bool ?_
  cases c with
  | true=>exact hb pins s1 σ H1 Q I1 (q1.1 rfl)
  | false=>exact⟨.bl false,H1,I1,rfl,q1.2 rfl⟩
 ·exact q1.elim
theorem OL {ta:TE} (ha:PE X a ta):PE X (.UnaryOp .Not a pos) (OK ta):=by
 intro pins s σ H Q I h
 refine UnaryOp_ (Am (ha pins s σ H _ I h) λv s1 ⟨x,H1,I1,r1,q1⟩=>?_)
 dsimp only at q1
 split at q1
 ·rename_i c
  cases r1
  exact not_of (wpAny_truthy_bool ⟨.bl (!c),H1,I1,rfl,q1⟩)
 ·exact q1.elim
def OM (t:TT) (ta tb:TE):TE:=fun σ H Q=>t σ H λc H1=>br c (ta σ H1 Q) (tb σ H1 Q)
theorem EO {ta tb:TE}{tA:TT} (hc:PT X c tA) (ha:PE X a ta) (hb:PE X b tb):PE X (.IfExp c a b pos) (OM tA ta tb):=by
 intro pins s σ H Q I h
 refine wpAny_IfExp (Am (hc pins s σ H _ I h) λd s1 ⟨H1,I1,q1⟩=>?_)
 cases d with
 | true=>exact ha pins s1 σ H1 Q I1 (q1.1 rfl)
 | false=>exact hb pins s1 σ H1 Q I1 (q1.2 rfl)
def ON (c:TT) (t u:TS):TS:=λD σ H=>c σ H λb H1=>br b (t D σ H1) (u D σ H1)
theorem A5 {sa sb:List Stmt}{tc:TT}{t u:TS} (hc:PT X c tc) (ha:PSs X sa t) (hb:PSs X sb u):PS X (.If c sa sb pos) (ON tc t u):=by
 intro pins s σ H D I h
 refine wpAny_If (Am (hc pins s σ H _ I h) λd s1 ⟨H1,I1,q1⟩=>?_)
 cases d with
 | true=>exact ha pins s1 σ H1 D I1 (q1.1 rfl)
 | false=>exact hb pins s1 σ H1 D I1 (q1.2 rfl)
end
section
variable {X : Cx} {es : List Expr} {t : TA} {pos : Pos}
theorem few {n:Nat} (h:Nat.ble n 64=true):n<=sizeLine:=Nat.le_trans (Nat.le_of_ble_eq_true h) (by decide)
def OO (t:TA):TE:=fun σ H Q=>t σ H λxs H1=>match Nat.ble xs.length 64 with | true=>∀p,H1 p=none->Q (.ref p) (upd H1 p (.tup xs)) | false=>False
def OP (t:TA):TE:=fun σ H Q=>t σ H λxs H1=>match Nat.ble xs.length 64 with | true=>∀p,H1 p=none->Q (.ref p) (upd H1 p (.lst xs)) | false=>False
theorem Bc {x1} (h:PA X es t):PE X (.Tuple es x1 pos) (OO t):=by
 intro pins s σ H Q I hq
 refine wpAny_Tuple_spliced (Am (h pos pins s σ H _ I hq) λus s1 ⟨xs,H1,I1,r,q⟩=>?_)
 dsimp only at q
 split at q
 ·rename_i z
  refine⟨by rw [<-r.length];exact few z,?_⟩
  have hf:H1 s1.heap.objs.size=none:=I1.hok.fresh (Nat.le_refl _)
  refine⟨.ref s1.heap.objs.size,upd H1 s1.heap.objs.size (.tup xs),I1.laid (t':=s1.toks) (λb u e=>Heap.get?_push_of_some _ e) (Nat.le_refl _) ?_,rfl,q _ hf⟩
  exact⟨few z,us,r,⟨_,Heap.get?_push_size _ rfl,rfl,_,rfl⟩⟩
 ·exact q.elim
theorem BF (h:PA X es t):PE X (.List es pos) (OP t):=by
 intro pins s σ H Q I hq
 refine wpAny_List_spliced (Am (h pos pins s σ H _ I hq) λus s1 ⟨xs,H1,I1,r,q⟩=>?_)
 dsimp only at q
 split at q
 ·rename_i z
  refine⟨by rw [<-r.length];exact few z,?_⟩
  have hf:H1 s1.heap.objs.size=none:=I1.hok.fresh (Nat.le_refl _)
  refine⟨.ref s1.heap.objs.size,upd H1 s1.heap.objs.size (.lst xs),I1.laid (t':=s1.toks) (λb u e=>Heap.get?_push_of_some _ e) (Nat.le_refl _) ?_,rfl,q _ hf⟩
  exact⟨few z,us,0,r,Heap.get?_push_size _ rfl⟩
 ·exact q.elim
end
section
variable {P : Program} {w : World} {K : PySem.W.Frag} {mg : Str -> Option Value} {base : Heap}
structure Fn (P:Program) (w:World) (K:PySem.W.Frag) (mg:Str->Option Value) (base:Heap) (n:Nat) (x:Str) (ps:List Str) (sp:Sp):Prop where
 ex:∃(f:Addr) (fd:FuncData),Cv P w K mg base CX0 n f fd ps sp/\mg x=some (.ref f)/\PySem.W.keepIn K (.ref f)=true/\Binds K fd ps []
structure Df (K:PySem.W.Frag) (mg:Str->Option Value) (x:Str) (st:Stmt) (ps:List Str):Prop where
 ex:∃(f:Addr) (fd:FuncData),DP K x x st f fd/\mg x=some (.ref f)/\Binds K fd ps []
theorem Df.fn {x:Str}{st:Stmt}{N ps:List Str}{k:Nat}{sp:Sp} (F:Df K mg x st ps) (S:Ay N ps (Aw st)) (len:∀vs H Q E,sp vs H Q E->vs.length=ps.length)
  (hbody : ∀ (f : Addr) (cdv : Value) (A : Around) (outer : List Env) (s : Shared) (H : Hp) (vs : List V) (Q : VK) (E : XK), Bb k (A.deeper (envOfC x (Aw st) s.heap.objs.size f cdv)) -> sp vs H Q E ->
   ∃t,PSs (DN CX0 P w K mg base N x (Aw st) f cdv A outer s H E).nox (BD st) t/\t { nx:=λ_ H'=>Q .non H',rt:=Q} (start N vs) H):Fn P w K mg base (k+1) x ps sp:=by
 obtain⟨f,fd,hF,hm,hb⟩:=F.ex
 exact⟨f,fd,hF.ok S len λcdv A outer s H vs Q E hr h=>hbody f cdv A outer s H vs Q E hr h,hm,hF.kp,hb⟩
def OQ (sp:Sp) (t:TA):TE:=fun σ H Q=>t σ H λvs H1=>sp vs H1 Q E0
theorem Aj {X:Cx}{n:Nat}{x:Str}{ps:List Str}{sp:Sp}{e:Expr}{es:List Expr}{t:TA}{p pos:Pos} (F:Fn X.prog X.w X.K X.mg X.base n x ps sp) (hr:Bb n X.A) (hg:Gl X x) (ha:PA X (e::es) t)
  (hdb:(x==("__debug__" :Str))=false:=by decide) (he:starEach (e::es) X.env=(false,eval e X.env)::starEach es X.env:=by rfl) (hpl:(backTo pos (starEach es X.env)).any (·.1)=false:=by rfl):
  PE X (.Call (.Name x p) (e::es) [] pos) (OQ sp t):=by
 obtain⟨f,fd,F,hm,hk,hb⟩:=F.ex
 refine(NB (dvs:=[]) (E:=E0) F hr hg hm hk hb .nil Oe ha hdb he hpl).weak fun σ H Q q=>?_
 have e:∀vs:List V,vs++[]=vs:=λvs=>List.append_nil vs
 show t σ H λvs H1=>sp (vs++[]) H1 Q E0
 simp only [e]
 exact q
end
end L2
end
section
namespace L2
open PySem PySem.Spec PyProof.Rows
variable {p a : Addr} {H H' : Hp} {xs : List V}
def DK (kvs:List (PyData×PyData)) (ks:List (Ar×V)):Prop:=(kvs=[]/\ks=[])\/(kvs=[(.int 0,.int 1)]/\ks=[(.inl 0,.int 1)])
mutual
def Aa (p:Addr) (H:Hp):PyData->V->Prop
 | .none,v=>v= .non
 | .bool b,v=>v= .bl b
 | .int i,v=>v= .int i
 | .str x,v=>v= .str x
 | .tuple ds,v=>∃a xs,v= .ref a/\H a=some (.tup xs)/\Ad p H ds xs
 | .list ds,v=>∃a xs,v= .ref a/\a≠p/\H a=some (.lst xs)/\Ad p H ds xs
 | .dict kvs,v=>∃a ks,v= .ref a/\a≠p/\DK kvs ks/\H a=some (.dK ks)
def Ad (p:Addr) (H:Hp):List PyData->List V->Prop
 | [],xs=>xs=[]
 | d::ds,xs=>∃x r,xs=x::r/\Aa p H d x/\Ad p H ds r
end
def Ev (p:Addr) (H H':Hp):Prop:=∀b o,H b=some o->(b=p/\∃xs,o= .lst xs)\/H' b=some o
theorem Ev.refl:Ev p H H:=λ_ _ h=> .inr h
theorem Ev.same (h:Ab H H'):Ev p H H':=λb o q=> .inr (h b o q)
theorem Ev.trans {H1 H2:Hp} (h:Ev p H H1) (h':Ev p H1 H2):Ev p H H2:=λb o q=>(h b o q).elim .inl λr=>h' b o r
theorem Ev.tup (h:Ev p H H') (q:H a=some (.tup xs)):H' a=some (.tup xs):=(h a _ q).elim (fun⟨_,ys,e⟩=>nomatch e) id
theorem Ev.lst (h:Ev p H H') (q:H a=some (.lst xs)) (n:a≠p):H' a=some (.lst xs):=(h a _ q).elim (fun⟨e,_⟩=>absurd e n) id
theorem Ev.dk {ks:List (Ar×V)} (h:Ev p H H') (q:H a=some (.dK ks)):H' a=some (.dK ks):=(h a _ q).elim (fun⟨_,ys,e⟩=>nomatch e) id
theorem Ev.new {o:HO} (h:H a=none):Ev p H (upd H a o):=λb u q=> .inr (by rw [Ap (A2 q h)];exact q)
theorem Ev.pen {o:HO} (h:H p=some (.lst xs)):Ev p H (upd H p o):=λb u q=>by
 by_cases e:b=p
 ·subst e;rw [h] at q;cases q;exact .inl ⟨rfl,xs,rfl⟩
 ·exact .inr (by rw [Ap e];exact q)
theorem Ab.new {o:HO} (h:H a=none):Ab H (upd H a o):=λb u q=>by rw [Ap (A2 q h)];exact q
mutual
theorem Aa.ev (h:Ev p H H'):∀(d:PyData) (v:V),Aa p H d v->Aa p H' d v
 | .none,v,q=>q
 | .bool _,v,q=>q
 | .int _,v,q=>q
 | .str _,v,q=>q
 | .tuple ds,v,q=>by
  unfold Aa at q ⊢
  obtain⟨a,xs,e,r,z⟩:=q
  exact⟨a,xs,e,h.tup r,Ad.ev h ds xs z⟩
 | .list ds,v,q=>by
  unfold Aa at q ⊢
  obtain⟨a,xs,e,n,r,z⟩:=q
  exact⟨a,xs,e,n,h.lst r n,Ad.ev h ds xs z⟩
 | .dict kvs,v,q=>by
  unfold Aa at q ⊢
  obtain⟨a,ks,e,n,k,r⟩:=q
  exact⟨a,ks,e,n,k,h.dk r⟩
theorem Ad.ev (h:Ev p H H'):∀(ds:List PyData) (xs:List V),Ad p H ds xs->Ad p H' ds xs
 | [],xs,q=>by unfold Ad at q ⊢;exact q
 | d::ds,xs,q=>by
  unfold Ad at q ⊢
  obtain⟨x,r,e,z,zs⟩:=q
  exact⟨x,r,e,Aa.ev h d x z,Ad.ev h ds r zs⟩
end
theorem Ad.len:∀ {ds:List PyData}{xs:List V},Ad p H ds xs->ds.length=xs.length
 | [],xs,q=>by unfold Ad at q;subst q;rfl
 | d::ds,xs,q=>by
  unfold Ad at q
  obtain⟨x,r,e,z,zs⟩:=q
  subst e
  simp [Ad.len zs]
theorem Ad.get {p:Addr}{H:Hp}:∀ {ds:List PyData}{xs:List V}{i:Nat}{d:PyData},Ad p H ds xs->ds[i]? =some d->∃x,xs[i]? =some x/\Aa p H d x
 | [],xs,i,d,q,e=>by simp at e
 | d::ds,xs,0,d',q,e=>by
  unfold Ad at q
  obtain⟨x,r,rfl,z,zs⟩:=q
  simp at e;subst e
  exact⟨x,rfl,z⟩
 | d::ds,xs,i+1,d',q,e=>by
  unfold Ad at q
  obtain⟨x,r,rfl,z,zs⟩:=q
  obtain⟨y,hy,ry⟩:=Ad.get (i:=i) zs (by simpa using e)
  exact⟨y,by simpa using hy,ry⟩
theorem Ad.got {p:Addr}{H:Hp}:∀ {ds:List PyData}{xs:List V}{i:Nat}{x:V},Ad p H ds xs->xs[i]? =some x->∃d,ds[i]? =some d/\Aa p H d x
 | [],xs,i,x,q,e=>by unfold Ad at q;subst q;simp at e
 | d::ds,xs,0,x',q,e=>by
  unfold Ad at q
  obtain⟨x,r,rfl,z,zs⟩:=q
  simp at e;subst e
  exact⟨d,rfl,z⟩
 | d::ds,xs,i+1,x',q,e=>by
  unfold Ad at q
  obtain⟨x,r,rfl,z,zs⟩:=q
  obtain⟨y,hy,ry⟩:=Ad.got (i:=i) zs (by simpa using e)
  exact⟨y,by simpa using hy,ry⟩
theorem Ad.nil:Ad p H [] []:=by unfold Ad;rfl
theorem Ad.cons {p:Addr}{H:Hp}{d:PyData}{ds:List PyData}{x:V}{xs:List V} (h:Aa p H d x) (r:Ad p H ds xs):Ad p H (d::ds) (x::xs):=by unfold Ad;exact⟨x,xs,rfl,h,r⟩
theorem Ad.append:∀ {ds es:List PyData}{xs ys:List V},Ad p H ds xs->Ad p H es ys->Ad p H (ds++es) (xs++ys)
 | [],_,xs,_,q,r=>by unfold Ad at q;subst q;exact r
 | d::ds,_,xs,_,q,r=>by
  unfold Ad at q
  obtain⟨x,t,rfl,z,zs⟩:=q
  exact .cons z (Ad.append zs r)
theorem Aa.tup {ds:List PyData} (h:H a=some (.tup xs)) (r:Ad p H ds xs):Aa p H (.tuple ds) (.ref a):=by unfold Aa;exact⟨a,xs,rfl,h,r⟩
theorem Aa.lst {ds:List PyData} (n:a≠p) (h:H a=some (.lst xs)) (r:Ad p H ds xs):Aa p H (.list ds) (.ref a):=by unfold Aa;exact⟨a,xs,rfl,n,h,r⟩
theorem Aa.int {i:Int}:Aa p H (.int i) (.int i):=by unfold Aa;rfl
theorem Aa.str {i:Str}:Aa p H (.str i) (.str i):=by unfold Aa;rfl
theorem Aa.non:Aa p H .none .non:=by unfold Aa;rfl
def Kd (x:V) (H:Hp) (n:String):Prop:=match x with
 | .non=>n="NoneType" | .bl _=>n="bool" | .int _=>n="int" | .str _=>n="str"
 | .ref a=>(n="tuple" /\∃xs,H a=some (.tup xs))\/(n="list" /\∃xs,H a=some (.lst xs))\/(n="dict" /\∃kvs,H a=some (.dK kvs))
 | _=>False
def OR:PyData->String
 | .none=> "NoneType" | .bool _=> "bool" | .int _=> "int" | .str _=> "str" | .tuple _=> "tuple" | .list _=> "list" | .dict _=> "dict"
def HW (n T:String):Bool:=n==T || (n=="bool" && T=="int")
theorem Aa.ty {v:V}:∀ {d:PyData},Aa p H d v->Kd v H (OR d)
 | .none,q=>by unfold Aa at q;subst q;rfl
 | .bool _,q=>by unfold Aa at q;subst q;rfl
 | .int _,q=>by unfold Aa at q;subst q;rfl
 | .str _,q=>by unfold Aa at q;subst q;rfl
 | .tuple ds,q=>by unfold Aa at q;obtain⟨a,xs,rfl,h,_⟩:=q;exact .inl ⟨rfl,xs,h⟩
 | .list ds,q=>by unfold Aa at q;obtain⟨a,xs,rfl,_,h,_⟩:=q;exact .inr (.inl ⟨rfl,xs,h⟩)
 | .dict kvs,q=>by unfold Aa at q;obtain⟨a,ks,rfl,_,_,h⟩:=q;exact .inr (.inr ⟨rfl,ks,h⟩)
def Ke:List V->Hp->VK->Prop:=λxs H Q=>match xs with
 | [x,.ty T]=>∃n,Kd x H n/\(T="int" \/T="bool" \/T="tuple" \/T="list" \/T="str")/\Q (.bl (HW n T)) H
 | _=>False
section
variable {X : Cx}
theorem boot_int:bootBuiltins "int"=some (.type "int"):=by decide+kernel
theorem boot_bool:bootBuiltins "bool"=some (.type "bool"):=by decide+kernel
theorem Ce:bootBuiltins "tuple"=some (.type "tuple"):=by decide+kernel
theorem HX:bootBuiltins "list"=some (.type "list"):=by decide+kernel
theorem HY:Be X (.builtin "isinstance") Ke:=by
 intro pins s σ H xs us Q I r h
 unfold Ke at h
 split at h
 ·rename_i x T
  obtain⟨n,ht,hT,q⟩:=h
  obtain⟨u,v,rfl,ru,rv⟩:=r.two
  cases rv
  have yes:∀s':Shared,Ac X pins σ H s'->HW n T=true->EP X pins σ Q (.bool true) s':=λs' I' e=>⟨.bl true,H,I',rfl,by rw [e] at q;exact q⟩
  have no:HW n T=false->EP X pins σ Q (.bool false) { s with toks:=s.toks+1}:=λe=>⟨.bl false,H,I.tok _,rfl,by rw [e] at q;exact q⟩
  cases x with
  | non=>
   have e:n="NoneType" :=ht
   subst e;cases ru
   rcases hT with rfl | rfl | rfl | rfl | rfl
   ·exact IsiPair.NoneType_int (no rfl)
   ·exact IsiPair.NoneType_bool (no rfl)
   ·exact IsiPair.NoneType_tuple (no rfl)
   ·exact IsiPair.NoneType_list (no rfl)
   ·exact IsiPair.NoneType_str (no rfl)
  | bl k=>
   have e:n="bool" :=ht
   subst e;cases ru
   rcases hT with rfl | rfl | rfl | rfl | rfl
   ·exact IsiPair.bool_int (yes _ I rfl)
   ·exact IsiPair.bool_bool (yes _ I rfl)
   ·exact IsiPair.bool_tuple (no rfl)
   ·exact IsiPair.bool_list (no rfl)
   ·exact IsiPair.bool_str (no rfl)
  | int k=>
   have e:n="int" :=ht
   subst e;obtain⟨t,rfl⟩:=ru
   rcases hT with rfl | rfl | rfl | rfl | rfl
   ·exact IsiPair.int_int (yes _ I rfl)
   ·exact IsiPair.int_bool (no rfl)
   ·exact IsiPair.int_tuple (no rfl)
   ·exact IsiPair.int_list (no rfl)
   ·exact IsiPair.int_str (no rfl)
  | str k=>
   have e:n="str" :=ht
   subst e;obtain⟨t,rfl⟩:=ru
   rcases hT with rfl | rfl | rfl | rfl | rfl
   ·exact IsiPair.str_int (no rfl)
   ·exact IsiPair.str_bool (no rfl)
   ·exact IsiPair.str_tuple (no rfl)
   ·exact IsiPair.str_list (no rfl)
   ·exact IsiPair.str_str (yes _ I rfl)
  | ref a=>
   cases ru
   have ht':(n="tuple" /\∃xs,H a=some (.tup xs))\/(n="list" /\∃xs,H a=some (.lst xs))\/(n="dict" /\∃kvs,H a=some (.dK kvs)):=ht
   rcases ht' with⟨e,xs,hx⟩ | ⟨e,xs,hx⟩ | ⟨e,xs,hx⟩
   ·subst e
    obtain⟨_,its,_,o,ho,hc,_⟩:=I.hok a _ hx
    rcases hT with rfl | rfl | rfl | rfl | rfl
    ·exact IsiPair.tuple_int ho hc (no rfl)
    ·exact IsiPair.tuple_bool ho hc (no rfl)
    ·exact IsiPair.tuple_tuple ho hc (yes _ I rfl)
    ·exact IsiPair.tuple_list ho hc (no rfl)
    ·exact IsiPair.tuple_str ho hc (no rfl)
   ·subst e
    obtain⟨_,its,k,_,ho⟩:=I.hok a _ hx
    rcases hT with rfl | rfl | rfl | rfl | rfl
    ·exact IsiPair.list_int ho rfl (no rfl)
    ·exact IsiPair.list_bool ho rfl (no rfl)
    ·exact IsiPair.list_tuple ho rfl (no rfl)
    ·exact IsiPair.list_list ho rfl (yes _ I rfl)
    ·exact IsiPair.list_str ho rfl (no rfl)
   ·subst e
    obtain⟨_,_,vs,_,o,es,ep,ho,hc,_⟩:=I.hok a _ hx
    have hc':o.cls= .type "dict" :=hc.1
    rcases hT with rfl | rfl | rfl | rfl | rfl
    ·exact IsiPair.dict_int ho hc' (no rfl)
    ·exact IsiPair.dict_bool ho hc' (no rfl)
    ·exact IsiPair.dict_tuple ho hc' (no rfl)
    ·exact IsiPair.dict_list ho hc' (no rfl)
    ·exact IsiPair.dict_str ho hc' (no rfl)
  | byt _=>exact(show False from ht).elim
  | flt _=>exact(show False from ht).elim
  | ty _=>exact(show False from ht).elim
 ·exact h.elim
theorem FP (hc:X.calm=true):Be X (.builtin "all") (λxs H Q=>∃(p:Addr) (bs:List Bool),xs=[.ref p]/\H p=some (.lst (bs.map V.bl))/\Q (.bl (bs.all id)) H):=by
 intro pins s σ H xs us Q I r h
 obtain⟨p,bs,rfl,hp,q⟩:=h
 obtain⟨u,rfl,ru⟩:=r.one
 cases ru
 obtain⟨its,rv,pl,hz⟩:=I.list (An.of hp)
 refine call_all_walk (wpAny_pyIter_list pl.isList ?_)
 obtain⟨ol,_,hol,_⟩:=id pl
 have hlt:=Heap.lt_size hol
 refine⟨s.heap.objs.size,_,_,_,_,_,λi=>bs.getD i false,rfl,Walks.list (A:=X.A.in1) (I.ok.hd hc) s.heap.objs.size p (Nat.ne_of_lt hlt) its.toArray,⟨⟨_,Heap.get?_push_size _ rfl,rfl,rfl⟩,?_⟩,λi v s' Q' E' hi hq=>?_,λh' tk hk=>?_⟩
 ·exact pl.isList.at λo e=>Heap.get?_push_of_some _ e
 ·have hi':its[i]? =some v:=by simpa using hi
  have hl:=rv.length
  have hb:i<bs.length:=by have:=(List.getElem?_eq_some_iff.mp hi').1;simp at hl;omega
  obtain⟨u,hu,ru⟩:=rv.get (i:=i) (x:= .bl bs[i]) (by simp [hb])
  rw [hi'] at hu;cases hu;cases ru
  dsimp only at hq;rw [List.getD_eq_getElem?_getD,List.getElem?_eq_getElem hb] at hq
  exact wpAny_truthy_bool hq
 ·have hl:=rv.length
  simp at hl
  have e:(List.range its.toArray.size).all (λi=>bs.getD i false)=bs.all id:=by
   rw [List.size_toArray,<-hl,Bool.eq_iff_iff]
   simp only [List.all_eq_true,List.mem_range,id]
   constructor
   ·intro h x hx
    obtain⟨i,hi,e⟩:=List.mem_iff_getElem.mp hx
    have:=h i hi
    rw [List.getD_eq_getElem?_getD,List.getElem?_eq_getElem hi] at this
    rw [<-e];exact this
   ·intro h i hi
    rw [List.getD_eq_getElem?_getD,List.getElem?_eq_getElem hi]
    exact h _ (List.getElem_mem hi)
  rw [e]
  refine⟨.bl (bs.all id),H,I.kept λb o eb=>hk b o ?_ (Heap.get?_push_of_some _ eb),rfl,q⟩
  intro z
  have z':b=s.heap.objs.size:=by simpa using z
  exact absurd (Heap.lt_size eb) (by rw [z'];exact Nat.lt_irrefl _)
end
end L2
end
section
namespace L2
open PySem PySem.Spec PyProof.Rows
open AutoSeq1 (wpAny_loadPart')
section
variable {X : Cx}
def Eg (H:Hp) (xs:List V) (Q:VK):Prop:=∀r H',Ab H H'->H' r=some (.tup xs)->Q (.ref r) H'
theorem Ac.gotNew {pins:List (Addr×Obj)}{σ:St}{H:Hp}{s:Shared}{Q:VK}{xs:List V}{us:List Value}{t':Nat} (I:Ac X pins σ H s) (q:Eg H xs Q) (rv:Au xs us) (hz:xs.length<=sizeLine):
  EP X pins σ Q (.ref s.heap.objs.size) { s with heap:=s.heap.push { cls:= .type "tuple",data:= .seq us.toArray},toks:=t'}:=
 ⟨.ref s.heap.objs.size,_,I.laid (o:= .tup xs) (λb ob e=>Heap.get?_push_of_some _ e) (Nat.le_refl _) ⟨hz,us,rv,IsTup.new _ _⟩,rfl,q _ _ (Ab.new (I.hok.fresh (Nat.le_refl _))) Ai⟩
def OS:R2:=λx y H Q=>∃a b xs ys,x= .ref a/\y= .ref b/\H a=some (.tup xs)/\H b=some (.tup ys)/\xs.length+ys.length<=1000/\Eg H (xs++ys) Q
theorem EQ:OpR X (binaryOp .Add) OS:=by
 intro pins s σ H x y v u Q I rx ry h
 obtain⟨a,b,xs,ys,rfl,rfl,ha,hb,hz,q⟩:=h
 cases rx;cases ry
 obtain⟨its,r1,ht,_⟩:=I.tuple (Ae.of ha)
 obtain⟨its2,r2,ht2,_⟩:=I.tuple (Ae.of hb)
 obtain⟨⟨cls,dd,data,sl⟩,ho,hc,n,hd⟩:=id ht;obtain⟨⟨cls2,dd2,data2,sl2⟩,ho2,hc2,n2,hd2⟩:=id ht2;simp only at hc hd hc2 hd2;subst hc hd hc2 hd2
 have hl1:=r1.length;have hl2:=r2.length
 have hs:(1000:Nat)<=sizeLine:=by decide
 by_cases hv:its=[]
 ·have e:xs=[]:=by subst hv;cases r1;rfl
  refine concat_meets ⟨_,ho,rfl⟩ ⟨_,ho2,rfl⟩ noFill_tuple_add seq_tuple_add PySem.F.slot_tuple_add PySem.F.entry_tuple_add (PySem.F.args_tuple_add_2 _ _) (tuple_addW0 a b its.toArray its2.toArray n n2 dd dd2 sl sl2 (by simp [hv])) ⟨ho,ho2,?_⟩
  exact⟨.ref b,H,I,rfl,q b H (Ab.refl _) (by rw [e];exact hb)⟩
 ·by_cases hw:its2=[]
  ·have e:ys=[]:=by subst hw;cases r2;rfl
   refine concat_meets ⟨_,ho,rfl⟩ ⟨_,ho2,rfl⟩ noFill_tuple_add seq_tuple_add PySem.F.slot_tuple_add PySem.F.entry_tuple_add (PySem.F.args_tuple_add_2 _ _) (tuple_addW1 a b its.toArray its2.toArray n n2 dd dd2 sl sl2 (by simpa using hv) (by simp [hw])) ⟨ho,ho2,?_⟩
   exact⟨.ref a,H,I,rfl,q a H (Ab.refl _) (by rw [e,List.append_nil];exact ha)⟩
  ·refine concat_meets ⟨_,ho,rfl⟩ ⟨_,ho2,rfl⟩ noFill_tuple_add seq_tuple_add PySem.F.slot_tuple_add PySem.F.entry_tuple_add (PySem.F.args_tuple_add_2 _ _)
    (tuple_addW2 a b its.toArray its2.toArray n n2 dd dd2 sl sl2 (by simpa using hv) (by simpa using hw) (by rw [List.size_toArray,List.size_toArray];omega)) ⟨ho,ho2,?_⟩
   have e:its.toArray++its2.toArray=(its++its2).toArray:=by simp
   rw [e]
   exact I.gotNew (t':=s.toks) q (r1.append r2) (by rw [List.length_append];omega)
theorem OT {t sl:Addr}{items:Array Value}{vl vu:Value}{lo hi:Option Int}{Q:Value->Shared->Prop}{prog:Program}{w:World}{A:Around}{E:Value->Shared->Prop}{s:Shared} (ht:IsTup s.heap t items) (hs:s.heap.IsSliceOf sl vl vu .none) (pl:IsPart vl lo) (pu:IsPart vu hi)
  (hw:HT.sIx items.size 0 lo=0/\HT.sIx items.size items.size hi=items.size) (h:Q (.ref t) s):wpAny (model prog w) A (getItem (.ref t) (.ref sl)) Q E s:=by
 obtain⟨os,hos,hcs,hds⟩:=id hs
 have hTs:s.TypeIs (.ref sl) "slice" :=⟨os,hos,hcs⟩
 unfold getItem
 try with_reducible refine wpAny_holding ?_
 first | refine wpAny_bind (wpAny_pure ?_) | skip
 refine wpAny_bind (wpAny_sequenceKey ht.typeIs (by decide) ?_)
 refine wpAny_bind (wpAny_callSpecial?_slot (name:=Str.ofString "__getitem__") ht.typeIs PyProof.Rows.slot_tuple_getitem (wpAny_call_entry PyProof.Rows.slot_tuple_getitem ht.typeIs entry_tuple_getitem ?_ (args_tuple_getitem _ _)))
 show wpAny _ _ (Builtin.Tuple.tupleItemsOf (.ref t) >>=_) _ _ s;refine wpAny_bind (tupleItemsOf_ ht ?_);refine wpAny_bind (wpAny_typeOf hTs ?_);rw [if_pos (by decide)]
 refine wpAny_bind (HT.sliceApplied_gen hs pl pu ?_)
 rw [hw.1,hw.2]
 show wpAny _ _ (if (((0:Nat):Int)==0 &&(1:Int)==1 &&(items.size-0)==items.size)=true then _ else _) _ _ s
 rw [if_pos (by simp)]
 refine wpAny_bind (m:=Builtin.Tuple.tupleIsExact _) ?_
 unfold Builtin.Tuple.tupleIsExact
 refine wpAny_bind (wpAny_typeOf ht.typeIs (wpAny_pure ?_))
 rw [if_pos (by decide)]
 exact wpAny_bind (wpAny_rule (wpAny_pure ⟨_,rfl,wpAny_pure h⟩))
def OU:V->Option Int->Option Int->Hp->VK->Prop:=λx lo hi H Q=>∃a xs,x= .ref a/\H a=some (.tup xs)/\Eg H (Bw xs lo hi) Q
theorem s_tup:Fx X OU:=by
 intro pins s σ H x v vl vu lo hi sl Q I rx hs pl pu h
 obtain⟨a,xs,rfl,ha,q⟩:=h
 cases rx
 obtain⟨its,r,ht,hz⟩:=I.tuple (Ae.of ha)
 have hlen:its.toArray.size=xs.length:=by rw [List.size_toArray];exact r.length.symm
 refine⟨"tuple",_,PyProof.Rows.slot_tuple_getitem.lookup,ht.typeIs,?_⟩
 by_cases hw:HT.sIx xs.length 0 lo=0/\HT.sIx xs.length xs.length hi=xs.length
 ·refine OT ht hs pl pu (by rw [hlen];exact hw) ⟨.ref a,H,I,rfl,q a H (Ab.refl _) ?_⟩
  unfold Bw
  rw [hw.1,hw.2,List.drop_zero,Nat.sub_zero,List.take_length]
  exact ha
 ·refine HT.getItem_tuple_cut ht hs pl pu (by rw [hlen];exact hw) ?_ (by rw [hlen];exact hz)
  rw [hlen]
  have e:its.toArray.toList=its:=rfl
  rw [e]
  exact I.gotNew (t':=s.toks) q ((r.drop _).take _) (Nat.le_trans (Fy xs lo hi) hz)
theorem Kf:fillsNumberSlot (.type "tuple") "mul"=pure false:=
 PySem.fillsNumberSlot_seq (id:="tuple.__mul__") (r:=some (.builtin "tuple.__rmul__")) F.slot_tuple_mul.lookup (by decide+kernel) F.slot_tuple_rmul.lookup (by decide+kernel)
theorem Kg:seqRepeat? (.type "tuple")=pure (some (.builtin "tuple.__mul__")):=by
 unfold seqRepeat?;rw [PySem.seqSlot_of (T:="tuple") (name:="__mul__") (id:="tuple.__mul__") F.slot_tuple_mul.lookup (by decide+kernel),PySem.seqSlot_of (T:="tuple") (name:="__rmul__") (id:="tuple.__rmul__") F.slot_tuple_rmul.lookup (by decide+kernel)];rfl
theorem Kh (a:Int) (t:Tok) (l:Addr) (items:Array Value) (n:Nat) (dd:Option Addr) (sl:Array (Option Value)):
  Meets (Builtin.«int.__rmul__» ⟨[.int a t,.ref l],[]⟩) (λ_ R s=>s.heap.get? l=some { cls:= .type "tuple",dict:=dd,data:= .seq items n,slots:=sl}/\R (.ok (.ret Value.notImplemented)) s):=
 .of_wp λprog w A R s h=>by obtain⟨hp,g,d,tk,os⟩:=s;obtain⟨hl,h⟩:=h;wp_walk using wpAny_loadPart' hl;exact⟨_,rfl,h⟩
theorem OV (l:Addr) (items:Array Value) (n:Nat) (dd:Option Addr) (sl:Array (Option Value)) (x:Int) (u:Tok) (hc0:¬(decide (x< -(2 ^ 63)) || decide (x≥2 ^ 63))=true) (hc1:¬(items.isEmpty || x==1)=true) (hc2:¬(decide (x<=0) || items.isEmpty)=true)
  (hc3:¬(items.size:Int) * x>(2 ^ 63-1)/ 8) (hc4:¬Builtin.Tuple.tupleTooMany ((items.size:Int) * x)=true) (hsz:sizeOk (.seq ((List.replicate x.toNat items).foldl (λa b=>a++b) #[]))):
  Meets (Builtin.«tuple.__mul__» ⟨[.ref l,.int x u],[]⟩) (λ_ R s=>s.heap.get? l=some { cls:= .type "tuple",dict:=dd,data:= .seq items n,slots:=sl}/\R (.ok (.ret (Value.ref s.heap.objs.size))) { s with heap:=s.heap.push { cls:=Value.type "tuple",data:=Data.seq ((List.replicate x.toNat items).foldl (λa b=>a++b) #[])}}):=
 .of_wp λprog w A R s h=>by
  obtain⟨hp,g,d,tk,os⟩:=s;obtain⟨hl,h⟩:=h;have f1:=AutoSeq1.idx_int;have f2:=AutoSeq1.sub_tuple_tuple
  wp_walk using wpAny_loadPart' hl
  rw [if_neg hc0]
  refine wpAny_bind (tupleItemsOf_ (items:=items) ⟨_,hl,rfl,n,rfl⟩ ?_)
  dsimp only
  rw [if_neg hc1,if_neg hc2,if_neg hc3,if_neg hc4]
  exact wpAny_bind (m:=Builtin.Tuple.tupleExact _) (wpAny_newObj_type (wpAny_pure ⟨_,rfl,h⟩) hsz)
def OW:R2:=λx y H Q=>∃a k xs,x= .ref a/\y= .int k/\H a=some (.tup xs)/\xs≠ []/\2<=k/\k<=100/\xs.length<=100/\Eg H (List.replicate k.toNat xs).flatten Q
theorem OX:OpR X (binaryOp .Mult) OW:=by
  intro pins s σ H x y v u Q I rx ry h
  obtain⟨a,k,xs,rfl,rfl,ha,hx,h1,h2,h3,q⟩:=h
  cases rx
  obtain⟨t,rfl⟩:=ry
  obtain⟨its,r,ht,hz⟩:=I.tuple (Ae.of ha)
  obtain⟨⟨cls,dd,data,sl⟩,ho,hc,n,hd⟩:=id ht;simp only at hc hd;subst hc hd
  have hl:=r.length
  refine wpAny_binaryOp_repeat_ref (T:="tuple") (U:="int") (by decide) ⟨_,ho,rfl⟩ (λs'=>typeIs_int s' k t) Kf F.fills_int_mul F.slot_int_rmul Kg F.slot_int_index.lookup
    (call_meets F.slot_int_rmul (typeIs_int s k t) F.entry_int_rmul (F.args_int_rmul_2 _ _) (Kh k t a its.toArray n dd sl) ⟨ho,rfl,⟨_,ho,rfl⟩,?_⟩)
  have hx':¬its.toArray.isEmpty=true:=by
    intro z
    have z':its=[]:=by simpa using z
    subst z';cases r;exact hx rfl
  have fl:(List.replicate k.toNat its.toArray).foldl (λa b=>a++b) #[]=(List.replicate k.toNat its).flatten.toArray:=by
    have:=JN its k.toNat []
    rw [List.nil_append] at this
    exact this
  have hp1:(its.length:Int) * k<=100 * 100:=Int.mul_le_mul (by omega) (by omega) (by omega) (by omega)
  have hlen:(List.replicate k.toNat its).flatten.length<=10000:=by
    rw [JO]
    have:k.toNat * its.length<=100 * 100:=Nat.mul_le_mul (by omega) (by omega)
    omega
  have hbig:(10000:Nat)<=sizeLine:=by decide
  refine call_meets F.slot_tuple_mul ⟨_,ho,rfl⟩ F.entry_tuple_mul (F.args_tuple_mul_2 _ _) (OV a its.toArray n dd sl k t (by simp;omega) (by simp only [hx',Bool.false_or];simp;omega) (by simp only [hx',Bool.or_false];simp;omega) (by rw [List.size_toArray];omega)
    (by unfold Builtin.Tuple.tupleTooMany; rw [List.size_toArray]; simp; have : (sizeLine : Int) = 16777216 := by decide
        omega) (by rw [fl];show(List.replicate k.toNat its).flatten.toArray.size<=sizeLine;rw [List.size_toArray];omega)) ⟨ho,?_⟩
  rw [fl]
  exact I.gotNew (t':=s.toks) q (r.rep k.toNat) (by rw [JO] at hlen ⊢;rw [hl];omega)
end
end L2
end
section
namespace L2
open PySem PySem.Spec PyProof.Rows
open AutoSeq1 (wpAny_loadPart')
section
variable {X : Cx}
def Ki:List (PyData×PyData)->Nat | []=>2 | [(.int i,.int j)]=>if i=0/\j=1 then 6 else 10 ^ 9 | _=>10 ^ 9
mutual
def BV:PyData->Nat
 | .none=>4 | .bool _=>5 | .int i=>if i.natAbs<10 ^ 31 then 40 else 10 ^ 9 | .str x=>(reprText x).length
 | .tuple ds=>C1 ds+4 | .list ds=>C1 ds+4 | .dict kvs=>Ki kvs
def C1:List PyData->Nat
 | []=>0
 | d::ds=>BV d+2+C1 ds
end
end
end L2
end
section
namespace L2
open PySem PySem.Spec PyProof.Rows
variable {i : Int} {p : Addr}
theorem Kj:∀(ts:List Str) (k:Nat) (acc:Str),(textFrom k acc ts).length<=acc.length+piled ts
 | [],k,acc=>by show acc.length<=_;omega
 | t::ts,k,acc=>by
  have ih:=Kj ts
  unfold textFrom
  rw [PySem.piled_cons]
  refine Nat.le_trans (ih _ _) ?_
  have e:(acc++(if k>0 then", " else"" :String)++t).length=acc.length+(if k>0 then 2 else 0)+t.length:=by
   rw [strLen_append,strLen_append]
   split<;>rfl
  rw [e]
  split<;>omega
theorem OY (ts:List Str):(listText ts).length<=piled ts+2:=by
 unfold listText
 rw [strLen_append]
 have:=Kj ts 0 "["
 have e1:(Str.ofString "[").length=1:=rfl
 have e2:(Str.ofString "]").length=1:=rfl
 omega
theorem OZ (ts:List Str):(tupleText ts).length<=piled ts+4:=by
 unfold tupleText
 rw [strLen_append,strLen_append]
 have e1:(Str.ofString "(").length=1:=rfl
 have e2:(Str.ofString (if (ts.length==1)=true then",)" else")")).length<=2:=by
  split
  ·exact Nat.le_refl 2
  ·exact Nat.le_succ 1
 have e3:(Str.join (Str.ofString ", ") ts).length<=piled ts:=by
  cases ts with
  | nil=>exact Nat.zero_le _
  | cons a r=>have:=join_length_add (a::r) (by simp);omega
 omega
theorem O0 (h:i.natAbs<10 ^ 31):(Str.ofString (toString i)).length<=40:=by
 have h1:=int_text_length_le10 (a:=i) (k:=31) (by decide) h
 have h2:(Str.ofString (toString i)).length=(toString i).length:=by rw [PySem.ofString_length]
 omega
theorem O1 (h:i.natAbs<10 ^ 31):i.natAbs.log2<1920:=by
 by_cases z:i.natAbs=0
 ·rw [z];decide
 ·exact Nat.lt_trans ((Nat.log2_lt z).mpr (Nat.lt_trans h (show 10 ^ 31<2 ^ 120 by decide))) (by decide)
mutual
theorem Kk:∀d:PyData,BV d<10 ^ 9->d.showable=true/\d.shown.length<=BV d
 | .none,_=>⟨rfl,by show 4<=4;decide⟩
 | .bool b,_=>⟨rfl,by cases b<;>(unfold PyData.shown BV;decide)⟩
 | .int i,h=>by
  unfold BV at h ⊢
  by_cases c:i.natAbs<10 ^ 31
  ·rw [if_pos c]
   refine⟨?_,?_⟩
   ·unfold PyData.showable;exact decide_eq_true (O1 c)
   ·unfold PyData.shown;exact O0 c
  ·rw [if_neg c] at h;exact absurd h (Nat.lt_irrefl _)
 | .str x,h=>⟨rfl,by unfold PyData.shown BV;exact Nat.le_refl _⟩
 | .tuple ds,h=>by
  unfold BV at h ⊢
  obtain⟨a,b⟩:=HZ ds (by omega)
  refine⟨by unfold PyData.showable;exact a,?_⟩
  unfold PyData.shown
  exact Nat.le_trans (OZ _) (by omega)
 | .list ds,h=>by
  unfold BV at h ⊢
  obtain⟨a,b⟩:=HZ ds (by omega)
  refine⟨by unfold PyData.showable;exact a,?_⟩
  unfold PyData.shown
  exact Nat.le_trans (OY _) (by omega)
 | .dict kvs,h=>by
  unfold BV at h
  unfold Ki at h
  split at h
  ·exact⟨rfl,by decide+kernel⟩
  ·split at h
   ·rename_i i j c
    obtain⟨rfl,rfl⟩:=c
    exact⟨by decide+kernel,by decide+kernel⟩
   ·exact absurd h (Nat.lt_irrefl _)
  ·exact absurd h (Nat.lt_irrefl _)
theorem HZ:∀ds:List PyData,C1 ds<10 ^ 9->PyData.showableAll ds=true/\piled (PyData.shownAll ds)<=C1 ds
 | [],_=>⟨rfl,by decide⟩
 | d::ds,h=>by
  unfold C1 at h ⊢
  obtain⟨a,b⟩:=Kk d (by omega)
  obtain⟨a',b'⟩:=HZ ds (by omega)
  refine⟨by unfold PyData.showableAll;rw [a,a'];rfl,?_⟩
  unfold PyData.shownAll
  rw [PySem.piled_cons]
  omega
end
section
variable {X : Cx} {pins : List (Addr × Obj)} {σ : St} {H : Hp} {s : Shared}
mutual
theorem Aa.reads (I:Ac X pins σ H s):∀(d:PyData) (v:V) (u:Value),d.hasDict=false->Aa p H d v->Av v u->∃as,Reads s.heap u d as
 | .none,v,u,_,r,q=>by unfold Aa at r;subst r;cases q;exact⟨_,.none⟩
 | .bool b,v,u,_,r,q=>by unfold Aa at r;subst r;cases q;exact⟨_,.bool b⟩
 | .int i,v,u,_,r,q=>by unfold Aa at r;subst r;obtain⟨t,rfl⟩:=q;exact⟨_,.int i t⟩
 | .str x,v,u,_,r,q=>by unfold Aa at r;subst r;obtain⟨t,rfl⟩:=q;exact⟨_,.str x t⟩
 | .tuple ds,v,u,hd,r,q=>by
  unfold Aa at r
  obtain⟨a,xs,rfl,ha,rs⟩:=r
  cases q
  obtain⟨its,rv,⟨o,ho,hc,n,hdt⟩,_⟩:=I.tuple (Ae.of ha)
  obtain⟨as,ra⟩:=Ad.reads I ds xs its (by unfold PyData.hasDict at hd;exact hd) rs rv
  exact⟨as,.tuple ho hc hdt ra⟩
 | .list ds,v,u,hd,r,q=>by
  unfold Aa at r
  obtain⟨a,xs,rfl,_,ha,rs⟩:=r
  cases q
  obtain⟨its,rv,⟨o,n,ho,hc,_,hdt⟩,_⟩:=I.list (An.of ha)
  obtain⟨as,ra⟩:=Ad.reads I ds xs its (by unfold PyData.hasDict at hd;exact hd) rs rv
  exact⟨a::as,.list ho hc hdt ra⟩
 | .dict kvs,v,u,hd,_,_=>by unfold PyData.hasDict at hd;cases hd
theorem Ad.reads (I:Ac X pins σ H s):∀(ds:List PyData) (xs:List V) (us:List Value),PyData.hasDictAll ds=false->Ad p H ds xs->Au xs us->∃as,ReadsAll s.heap us ds as
 | [],xs,us,_,r,q=>by unfold Ad at r;subst r;cases q;exact⟨_,.nil⟩
 | d::ds,xs,us,hd,r,q=>by
  unfold Ad at r
  obtain⟨x,t,rfl,rx,rt⟩:=r
  unfold PyData.hasDictAll at hd
  obtain⟨h1,h2⟩:=Bool.or_eq_false_iff.mp hd
  cases q with
  | cons q1 q2=>
   obtain⟨as,ra⟩:=Aa.reads I d x _ h1 rx q1
   obtain⟨bs,rb⟩:=Ad.reads I ds t _ h2 rt q2
   exact⟨as++bs,.cons ra rb⟩
end
mutual
def ER:PyData->Bool
 | .list _=>false | .tuple ds=>FQ ds | .none=>true | .bool _=>true | .int _=>true | .str _=>true | .dict _=>true
def FQ:List PyData->Bool
 | []=>true
 | d::ds=>ER d && FQ ds
end
mutual
theorem Aa.readsD (I:Ac X pins σ H s):∀(d:PyData) (v:V) (u:Value),ER d=true->Aa p H d v->Av v u->∃as,Reads s.heap u d as/\¬sysModules∈as
 | .none,v,u,_,r,q=>by unfold Aa at r;subst r;cases q;exact⟨_,.none,List.not_mem_nil⟩
 | .bool b,v,u,_,r,q=>by unfold Aa at r;subst r;cases q;exact⟨_,.bool b,List.not_mem_nil⟩
 | .int i,v,u,_,r,q=>by unfold Aa at r;subst r;obtain⟨t,rfl⟩:=q;exact⟨_,.int i t,List.not_mem_nil⟩
 | .str x,v,u,_,r,q=>by unfold Aa at r;subst r;obtain⟨t,rfl⟩:=q;exact⟨_,.str x t,List.not_mem_nil⟩
 | .tuple ds,v,u,hd,r,q=>by
  unfold Aa at r
  obtain⟨a,xs,rfl,ha,rs⟩:=r
  cases q
  obtain⟨its,rv,⟨o,ho,hc,n,hdt⟩,_⟩:=I.tuple (Ae.of ha)
  obtain⟨as,ra,hn⟩:=Ad.readsD I ds xs its (by unfold ER at hd;exact hd) rs rv
  exact⟨as,.tuple ho hc hdt ra,hn⟩
 | .list ds,v,u,hd,r,q=>by unfold ER at hd;cases hd
 | .dict kvs,v,u,hd,r,q=>by
  unfold Aa at r
  obtain⟨a,ks,rfl,_,dk,hb⟩:=r
  cases q
  obtain⟨_,hne,vs,kv,o,es,ep,ho,hx,hdt,hl0,hl,hll⟩:=I.hok a _ hb
  have hsm:sysModules≠a:=λe=>by rw [<-e] at hne;simp at hne
  rcases dk with⟨rfl,rfl⟩ | ⟨rfl,rfl⟩
  ·cases kv
   have hes:es.toList=[]:=by
    generalize es.toList=l at hl
    cases hl;rfl
   exact⟨a::[]++[],.dict ho hx.1 hdt (by rw [hes];exact .nil) (by rw [hes];exact .nil),by simpa using hsm⟩
  ·cases kv with
   | cons h1 t1=>
    cases t1
    obtain⟨e1,e2⟩:=h1
    generalize hes:es.toList=l at hl
    cases hl with
    | cons k1 k2 k3=>
     cases k3
     rename_i kv' e
     have k1':Di (.inl 0) e.key=true:=by
      have e1':(Sum.inl 0:Ar)=kv'.1:=e1
      rw [e1'];exact k1
     obtain⟨t,ht⟩:∃t,e.key=Value.int 0 t:=by
      rcases Cm k1' with⟨i,t,h,h'⟩ | ⟨x,t,h,_⟩
      ·cases h;exact⟨t,h'⟩
      ·cases h
     obtain⟨t1,ht1⟩:∃t,kv'.2=Value.int 1 t:=e2
     refine⟨a::([]++[])++([]++[]),.dict (kvs:=[(.int 0,.int 1)]) ho hx.1 hdt ?_ ?_,by simpa using hsm⟩
     ·rw [hes]
      show ReadsAll _ [e.key] [.int 0] _
      rw [ht]
      exact .cons (.int 0 t) .nil
     ·rw [hes]
      show ReadsAll _ [e.val] [.int 1] _
      rw [k2,ht1]
      exact .cons (.int 1 t1) .nil
theorem Ad.readsD (I:Ac X pins σ H s):∀(ds:List PyData) (xs:List V) (us:List Value),FQ ds=true->Ad p H ds xs->Au xs us->∃as,ReadsAll s.heap us ds as/\¬sysModules∈as
 | [],xs,us,_,r,q=>by unfold Ad at r;subst r;cases q;exact⟨_,.nil,List.not_mem_nil⟩
 | d::ds,xs,us,hd,r,q=>by
  unfold Ad at r
  obtain⟨x,t,rfl,rx,rt⟩:=r
  unfold FQ at hd
  obtain⟨h1,h2⟩:=(Bool.and_eq_true _ _).mp hd
  cases q with
  | cons q1 q2=>
   obtain⟨as,ra,ha⟩:=Aa.readsD I d x _ h1 rx q1
   obtain⟨bs,rb,hb⟩:=Ad.readsD I ds t _ h2 rt q2
   exact⟨as++bs,.cons ra rb,λz=>(List.mem_append.mp z).elim ha hb⟩
end
structure FR (d:PyData):Prop where
 w:BV d<=1000000
 dp:d.depth<=20
 nd:d.hasDict=false\/ER d=true
def Kl:List V->Hp->VK->Prop:=λxs H Q=>match xs with | [v]=>∃p d,Aa p H d v/\FR d/\Q (.str d.shown) H | _=>False
theorem FS {k:Nat} (hr:Bb k X.A):Be X (.builtin "repr") Kl:=by
 intro pins s σ H xs us Q I r h
 unfold Kl at h
 split at h
 ·rename_i v
  obtain⟨p,d,rd,nd,q⟩:=h
  obtain⟨u,rfl,ru⟩:=r.one
  obtain⟨sh,sl⟩:=Kk d (Nat.lt_of_le_of_lt nd.w (by decide))
  have big:(1000000:Nat)<=sizeLine:=by decide
  have hsz:d.shown.length<=sizeLine:=Nat.le_trans sl (Nat.le_trans nd.w big)
  have un:=hr.un
  have fin:∀h' tk t,(∀b o,s.heap.get? b=some o->h'.get? b=some o)->EP X pins σ Q (.str d.shown t) { s with heap:=h',toks:=tk}:=λh' tk t hk=>⟨.str d.shown,H,I.kept hk,⟨t,rfl⟩,q⟩
  have isref:∀a,u= .ref a->wpAny (model X.prog X.w) X.A (call (.builtin "repr") [u]) (EP X pins σ Q) X.xe s:=λa e=>by
   subst e
   have dpt:X.A.units+(d.depth+1)<cLine:=by have:=nd.dp;omega
   rcases nd.nd with hd | hd
   ·obtain⟨as,ra⟩:=Aa.reads I d v _ hd rd ru
    exact repr_of_reads' ra sh (PyData.noDict_hsm hd) hr.gd dpt (λ_ _ e=>e) (λh' t tk hk=>fin h' tk t hk) hsz
   ·obtain⟨as,ra,hm⟩:=Aa.readsD I d v _ hd rd ru
    exact repr_of_reads' ra sh (λ_=>hm) hr.gd dpt (λ_ _ e=>e) (λh' t tk hk=>fin h' tk t hk) hsz
  cases d with
  | none=>unfold Aa at rd;subst rd;cases ru;exact PySem.P.repr_of_none (fin s.heap _ _ λ_ _ e=>e)
  | bool b=>unfold Aa at rd;subst rd;cases ru;exact PySem.P.repr_of_bool (by have:=fin s.heap (s.toks+1) s.toks λ_ _ e=>e;unfold PyData.shown at this;exact this)
  | int i=>
   unfold Aa at rd;subst rd;obtain⟨t,rfl⟩:=ru
   refine PySem.P.repr_of_int ?_ (by have:=fin s.heap (s.toks+1) s.toks λ_ _ e=>e;unfold PyData.shown at this;exact this)
   unfold PyData.showable at sh;exact of_decide_eq_true sh
  | str x=>
   unfold Aa at rd;subst rd;obtain⟨t,rfl⟩:=ru
   exact PySem.P.repr_of_str (by have:=fin s.heap (s.toks+1) s.toks λ_ _ e=>e;unfold PyData.shown at this;exact this) (by unfold PyData.shown at hsz;exact hsz)
  | tuple ds=>have rd':=rd;unfold Aa at rd';obtain⟨a,xs,rfl,_⟩:=rd';exact isref a ru
  | list ds=>have rd':=rd;unfold Aa at rd';obtain⟨a,xs,rfl,_⟩:=rd';exact isref a ru
  | dict kvs=>have rd':=rd;unfold Aa at rd';obtain⟨a,ks,rfl,_⟩:=rd';exact isref a ru
 ·exact h.elim
theorem Ac.big (I:Ac X pins σ H s):sysModules<s.heap.objs.size:=by
 have h:mainGlobals<s.heap.objs.size:=(I.mod.glob.keeps I.bk).lt
 exact Nat.lt_trans (by decide) h
end
end L2
end
section
namespace L2
open PySem PySem.Spec PyProof.Rows
section
variable {X : Cx} {P : Program} {w : World}
theorem Bu (K:PySem.W.Frag) (h:X.K=K:=by rfl):EI X (JH K):=h ▸ NO
theorem AW (K:PySem.W.Frag) (h:X.K=K:=by rfl):EI X (JI K):=h ▸ NP
theorem O2 (K:PySem.W.Frag) (h:X.K=K:=by rfl):Fx X (JJ K):=h ▸ NU
theorem Eh (K:PySem.W.Frag) (h:X.K=K:=by rfl):OpR X (compareOp .In) (JL K false):=h ▸ NW
def O3 (K:PySem.W.Frag):List V->Hp->VK->Prop:=λxs H Q=>∃p ys,xs=[.ref p]/\(An K H p ys\/Ae K H p ys)/\Q (.int (ys:List V).length) H
theorem BG (K:PySem.W.Frag) (h:X.K=K:=by rfl):Be X (.builtin "len") (O3 K):=h ▸ NX
def O4 (K:PySem.W.Frag):List V->Hp->VK->Prop:=λxs H Q=>∃p ys,xs=[.ref p]/\(An K H p ys\/Ae K H p ys)/\∀l,H l=none->Q (.ref l) (upd H l (.lst ys))
theorem O5 (K:PySem.W.Frag) (h:X.K=K:=by rfl):Be X (.type "list") (O4 K):=h ▸ NY
def O6 (K:PySem.W.Frag):List V->Hp->VK->Prop:=λxs H Q=>∃p ys,xs=[.ref p]/\((An K H p ys/\∀l,H l=none->Q (.ref l) (upd H l (.tup ys)))\/(Ae K H p ys/\Q (.ref p) H))
theorem Cw (K:PySem.W.Frag) (h:X.K=K:=by rfl):Be X (.type "tuple") (O6 K):=h ▸ NZ
theorem AC (K:PySem.W.Frag) {es:List Expr}{k:Nat}{t:Dl}{n:Nat}{pos:Pos} (h:EF X es t) (hK:X.K=K:=by rfl) (hc:X.calm=true:=by rfl) (hn:(assignEach es X.env).length=n:=by rfl) (hst:(assignEach es X.env).findIdx? (·.1)=none:=by rfl):
  PG X (.Tuple es k pos) (Jl K n t):=hK ▸ M8 hc h hn hst
theorem FU (K:PySem.W.Frag) {tg l:Expr}{tl:TE} (hl:PE X l tl) (h:X.K=K:=by rfl):PI X tg l (Jo K tl):=h ▸ Nf hl
theorem BW (K:PySem.W.Frag) {tg l:Expr}{tl:TE} (hl:PE X l tl) (h:X.K=K:=by rfl):PI X tg l (Jp K tl):=h ▸ Ng hl
theorem O7 (P:Program) (w:World) (K:PySem.W.Frag) {es:List Expr}{k:Nat}{p pos pos':Pos}{a:Expr}{ta:TA} (hg:Gl X "enumerate") (hm:X.mg "enumerate"=none) (ha:PA X [a] ta) (hP:X.prog=P:=by rfl) (hw:X.w=w:=by rfl) (hK:X.K=K:=by rfl) (hs:starEach [a] X.env=[(false,eval a X.env)]:=by rfl):
  PI X (.Tuple es k pos') (.Call (.Name "enumerate" p) [a] [] pos) (FH (BO P w K) ta):=by subst hP hw hK;exact Ov hg hm ha hs
theorem FV (P:Program) (w:World) (K:PySem.W.Frag) {es:List Expr}{k:Nat}{p pos pos':Pos}{a:Expr}{ta:TA} (hg:Gl X "enumerate") (hm:X.mg "enumerate"=none) (ha:PA X [a] ta) (hP:X.prog=P:=by rfl) (hw:X.w=w:=by rfl) (hK:X.K=K:=by rfl) (hs:starEach [a] X.env=[(false,eval a X.env)]:=by rfl):
  PI X (.Tuple es k pos') (.Call (.Name "enumerate" p) [a] [] pos) (FH (BE P w K) ta):=by subst hP hw hK;exact Ow hg hm ha hs
theorem O8 (P:Program) (w:World) (K:PySem.W.Frag) {es:List Expr}{k:Nat}{p pos pos':Pos}{e1 e2:Expr}{ta:TA} (hg:Gl X "zip") (hm:X.mg "zip"=none) (ha:PA X [e1,e2] ta) (hP:X.prog=P:=by rfl) (hw:X.w=w:=by rfl) (hK:X.K=K:=by rfl)
  (hs:starEach [e1,e2] X.env=[(false,eval e1 X.env),(false,eval e2 X.env)]:=by rfl) (hs2:starEach [e2] X.env=[(false,eval e2 X.env)]:=by rfl):
  PI X (.Tuple es k pos') (.Call (.Name "zip" p) [e1,e2] [] pos) (Do (BE P w K) (BO P w K) ta):=by subst hP hw hK;exact OC hg hm ha hs hs2
theorem Ia (P:Program) (w:World) (K:PySem.W.Frag) {es:List Expr}{k:Nat}{p pos pos':Pos}{e1 e2:Expr}{ta:TA} (hg:Gl X "zip") (hm:X.mg "zip"=none) (ha:PA X [e1,e2] ta) (hP:X.prog=P:=by rfl) (hw:X.w=w:=by rfl) (hK:X.K=K:=by rfl)
  (hs:starEach [e1,e2] X.env=[(false,eval e1 X.env),(false,eval e2 X.env)]:=by rfl) (hs2:starEach [e2] X.env=[(false,eval e2 X.env)]:=by rfl):
  PI X (.Tuple es k pos') (.Call (.Name "zip" p) [e1,e2] [] pos) (Do (BE P w K) (BE P w K) ta):=by subst hP hw hK;exact OD hg hm ha hs hs2
end
section
variable {X : Cx}
def O9:List V->Hp->VK->Prop:=λxs H Q=>∃(p:Addr) (ns:List Int),xs=[.ref p]/\H p=some (.lst (ns.map V.int))/\Q (.int ns.sum) H
theorem Ib:∀ {ns:List Int}{us:List Value},Au (ns.map V.int) us->IntsAre us ns
 | [],us,h=>by cases h;exact .nil
 | n::ns,us,h=>by
  cases h with
  | cons r t=>obtain⟨k,rfl⟩:=r;exact .cons n k (Ib t)
theorem FW (hc:X.calm=true):Be X (.builtin "sum") O9:=by
 intro pins s σ H xs us Q I r h
 obtain⟨p,ns,rfl,hp,q⟩:=h
 obtain⟨u,rfl,ru⟩:=r.one
 cases ru
 obtain⟨its,rv,pl,hz⟩:=I.list (An.of hp)
 have hi:=Ib rv
 obtain⟨xs,hx⟩:=AllInts.items hi.allInts
 have hl:s.heap.IsList p (intItems xs):=hx ▸ pl.isList
 refine sum_intListG (I.ok.hd hc) hl λh' tk t' hk=>?_
 have e1:ns=xs.toList.map (λx=>x.fst):=by rw [<-nums_intItems,<-hx,List.toList_toArray,hi.numsOf]
 have e2:preSum (numAt xs) xs.size=ns.sum:=by
  rw [preSum_eq,List.take_of_length_le (by simp),<-e1]
 rw [e2]
 exact⟨.int ns.sum,H,I.kept λb o eb=>hk b o eb,⟨t',rfl⟩,q⟩
end
def ES (lo st:Int) (n:Nat):It:= { go:=λi _=>i<n,yld:=λi H x H'=>H'=H/\x= .int (lo+i * st),stop:=λi _=>n<=i}
theorem Pa {P:Program}{w:World}{K:PySem.W.Frag}{tg:Expr} (it:Addr) (lo st:Int) (n:Nat):CG P w K tg (ES lo st n) [it] it (λi h=>IsRangeIter h it (lo+(i:Nat) * st) ((n:Int)-(i:Nat)) st) where
 mem:=by simp
 obj:=λi h hs b hb=>by
  obtain rfl:b=it:=by simpa using hb
  exact⟨_,hs,λv z=>by
   have z':Data.fields _=Data.cell v:=z
   cases z'⟩
 keep:=λi h h' hs k=>k it (by simp) _ hs
 item:=by
  intro X hP hw hK hc i pins s σ H E I hf hs hg
  subst hP hw hK
  obtain⟨f0,f1,f2,f3,f4,f5⟩:=hf it (by simp)
  have W:=Walks.range (prog:=X.prog) (w:=X.w) (I.ok.hd hc) it lo st n
  refine W.item i s _ _ hg hs λv h' tk hv st' kk=>?_
  obtain⟨t,rfl⟩:=hv
  have I1:Ac X pins σ H { s with heap:=h',toks:=tk}:=I.turned (λb o hb e=>kk b o (by simpa using hb) e) f0 f1 f3 f4 f5
  exact⟨_,rfl,Fp (s:= { s with heap:=h',toks:=tk}) (n:="range_iterator") st' rfl rfl (by decide) ⟨.int (lo+i * st),H,I1,⟨t,rfl⟩,⟨rfl,rfl⟩,st',λb hb=>(hf b hb).1⟩⟩
 done:=by
  intro X hP hw hK hc i pins s σ H E I hf hs hg
  subst hP hw hK
  obtain⟨f0,f1,f2,f3,f4,f5⟩:=hf it (by simp)
  exact wpAny_pyNext_range_end (I.ok.hd hc) hs (by have:n<=i:=hg;omega) λh' eb=>⟨rfl,I.turned (t':=s.toks) (λb o hb e=>eb b o hb e) f0 f1 f3 f4 f5⟩
 self:=λ_ _ _ _ _ hs h=>wpAny_pyIter_rangeiter hs h
def C3 (i j k:Int):Nat:=(Builtin.Range.rangeSize i j k).toNat
theorem Km {i j k:Int} (h:1<=k) (hi: -1000<=i) (hj:j<=1000):0<=Builtin.Range.rangeSize i j k/\Builtin.Range.rangeSize i j k<=2001:=by
 unfold Builtin.Range.rangeSize
 rw [if_pos (by omega)]
 split
 ·have h1:0<=(j-i-1)/ k:=Int.ediv_nonneg (by omega) (by omega)
  have h2:(j-i-1)/ k<=(j-i-1):=Int.ediv_le_self _ (by omega)
  omega
 ·omega
theorem Pb {i j k:Int} (h:1<=k) (hk:k<=1000) (hi: -1000<=i) (hi':i<=1000) (hj: -1000<=j) (hj':j<=1000):Builtin.Range.small i j k=true:=by
 obtain⟨a,b⟩:=Km h hi hj'
 have f:∀z:Int,-5000<=z->z<=5000->Builtin.Range.rangeFitsLong z=true:=λz z1 z2=>by
  unfold Builtin.Range.rangeFitsLong
  simp only [Bool.and_eq_true,decide_eq_true_eq]
  omega
 unfold Builtin.Range.small
 rw [f i (by omega) (by omega),f j (by omega) (by omega),f k (by omega) (by omega),f _ (by omega) (by omega),if_pos (by omega),f (j+(k-1)) (by omega) (by omega)]
 simp
section
variable {X : Cx} {tg : Expr}
end
theorem Pc {lo st:Int}{n:Nat}{g:TG}{tb:TS}{D:CD}{σ:St}{H:Hp} (Pv:Nat->St->Hp->Prop) (h0:Pv 0 σ H)
  (hs:∀i σ H,i<n->Pv i σ H->g (.int (lo+i * st)) σ H fun σ2 H2=>tb { D with nx:=Pv (i+1),ct:=Pv (i+1),bk:=D.nx} σ2 H2) (hd:∀σ H,Pv n σ H->D.nx σ H):
  ∃W:Nat->Nat->St->Hp->Prop,(∃m,W 0 m σ H)/\∀i m σ H,W i m σ H->
   ((ES lo st n).stop i H/\D.nx σ H)\/((ES lo st n).go i H/\∃N:St->Hp->Prop,(∀σ' H',N σ' H'->∃m',m'<m/\W (i+1) m' σ' H')/\∀x H',(ES lo st n).yld i H x H'->g x σ H' fun σ2 H2=>tb { D with nx:=N,ct:=N,bk:=D.nx} σ2 H2):=by
 refine⟨λi m σ H=>m=n-i/\i<=n/\Pv i σ H,⟨n,by simp,Nat.zero_le _,h0⟩,?_⟩
 rintro i m σ H ⟨rfl,hi,p⟩
 by_cases hlt:i<n
 ·refine .inr ⟨hlt,Pv (i+1),fun σ' H' p'=>⟨n-(i+1),by omega,rfl,hlt,p'⟩,λx H' ⟨e,y⟩=>?_⟩
  subst e y
  exact hs i σ _ hlt p
 ·obtain rfl:i=n:=by omega
  exact .inl ⟨Nat.le_refl _,hd σ H p⟩
end L2
end
section
namespace MF
open PySem PySem.Spec PyProof.Rows L2
variable {α : Type} {i : Nat} {h : Int} {ws : List Bool} {p : Addr} {H : Hp} {xs : List V}
theorem _root_.L2.walk_enum {P:Program}{w:World}{K:PySem.W.Frag}{S:AV P w K}{a:Addr}{xs:List V}{cap:List (Option Nat)}{g:TG}{tt:TT}{te:TE}{σ:L2.St}{Q:List V->Hp->Prop}{H:Hp} (Pv:Nat->List V->Hp->Prop) (hn:xs.length<=100000) (h0:Pv 0 [] H) (hz:∀i zs H,Pv i zs H->zs.length<=i)
  (hl:∀i zs H,Pv i zs H->S.Sq H a xs)
  (hs:∀i x zs H T,xs[i]? =some x->Pv i zs H->H T=none->g (.ref T) (AM cap σ) (upd H T (.tup [.int i,x])) fun σ2 H2=>Keep (AM cap σ) σ2/\tt σ2 H2 λb H3=>br b (te σ2 H3 λy H4=>Pv (i+1) (zs++[y]) H4) (Pv (i+1) zs H3))
  (hd:∀zs H,Pv xs.length zs H->Q zs H):DS (Ee S a) cap g tt te σ Q H:=
 Ed xs.length Pv hn h0 hz (λi zs H hi p=>by
  have q:=hl i zs H p
  refine⟨⟨xs,xs[i],q,by simp [hi]⟩,λv H' ⟨T,e,n,y⟩=>?_⟩
  subst e
  rw [y xs xs[i] q (by simp [hi])]
  exact hs i xs[i] zs H T (by simp [hi]) p n)
  λzs H p=>⟨⟨xs,hl _ zs H p,rfl⟩,hd zs H p⟩
theorem _root_.L2.for_enum {P:Program}{w:World}{K:PySem.W.Frag}{S:AV P w K}{a:Addr}{xs:List V}{g:TG}{tb:TS}{D:CD}{σ:L2.St}{H:Hp} (Pv:Nat->L2.St->Hp->Prop) (h0:Pv 0 σ H) (hl:∀i σ H,Pv i σ H->S.Sq H a xs)
  (hs:∀i x σ H T,xs[i]? =some x->Pv i σ H->H T=none->g (.ref T) σ (upd H T (.tup [.int i,x])) fun σ2 H2=>tb { D with nx:=Pv (i+1),ct:=Pv (i+1),bk:=D.nx} σ2 H2) (hd:∀σ H,Pv xs.length σ H->D.nx σ H):
  ∃W:Nat->Nat->L2.St->Hp->Prop,(∃m,W 0 m σ H)/\∀i m σ H,W i m σ H->
   ((Ee S a).stop i H/\D.nx σ H)\/((Ee S a).go i H/\∃N:L2.St->Hp->Prop,(∀σ' H',N σ' H'->∃m',m'<m/\W (i+1) m' σ' H')/\∀x H',(Ee S a).yld i H x H'->g x σ H' fun σ2 H2=>tb { D with nx:=N,ct:=N,bk:=D.nx} σ2 H2):=by
 refine⟨λi m σ H=>m=xs.length-i/\i<=xs.length/\Pv i σ H,⟨xs.length,by simp,Nat.zero_le _,h0⟩,?_⟩
 rintro i m σ H ⟨rfl,hi,p⟩
 have q:=hl i σ H p
 by_cases hlt:i<xs.length
 ·refine .inr ⟨⟨xs,xs[i],q,by simp [hlt]⟩,Pv (i+1),fun σ' H' p'=>⟨xs.length-(i+1),by omega,rfl,hlt,p'⟩,λx H' ⟨T,e,n,y⟩=>?_⟩
  subst e
  rw [y xs xs[i] q (by simp [hlt])]
  exact hs i xs[i] σ H T (by simp [hlt]) p n
 ·obtain rfl:i=xs.length:=by omega
  exact .inl ⟨⟨xs,q,rfl⟩,hd σ H p⟩
structure PL where
 bs:List (Int×Int)
 es:List (Int×Int×Int)
 lo:Int
 hi:Int
 st:Int
abbrev bD (q:Int×Int):PyData:= .tuple [.int q.1,.int q.2]
abbrev eD (q:Int×Int×Int):PyData:= .tuple [.int q.1,.int q.2.1,.int q.2.2]
def PL.d (P:PL):PyData:= .tuple [.tuple (P.bs.map bD),.tuple (P.es.map eD),.tuple [.int P.lo,.int P.hi,.int P.st]]
structure PL.ok (P:PL):Prop where
 b:∀q∈P.bs,1<=q.1/\q.1<=9/\1<=q.2/\q.2<=9
 b1:1<=P.bs.length
 b4:P.bs.length<=4
 e:∀q∈P.es,1<=q.1/\q.1<=9/\0<=q.2.1/\q.2.1<=7/\1<=q.2.2/\q.2.2<=8
 e4:P.es.length<=4
 lo0:0<=P.lo
 ls:P.lo<=P.st
 sh:P.st<=P.hi
 h4:P.hi<=40
structure FT where
 b:Int
 out:Bool
 f:Int
 l:Int
def wS (b:Bool):Str:=if b then"out" else"scaled"
abbrev wV (b:Bool):V:= .str (wS b)
abbrev FT.d (x:FT):PyData:= .tuple [.int x.b,.str (wS x.out),.int x.f,.int x.l]
structure SY where
 ex:List Int
 fs:List FT
def SY.d (S:SY):PyData:= .tuple [.tuple (S.ex.map .int),.tuple (S.fs.map FT.d)]
structure FT.ok (x:FT) (n h:Nat):Prop where
 b0:0<=x.b
 bn:x.b<n
 f0:0<=x.f
 fl:x.f<=x.l
 lh:x.l<h
structure SY.ok (S:SY) (n:Nat):Prop where
 x1:1<=S.ex.length
 x8:S.ex.length<=8
 x:∀u∈S.ex,0<=u/\u<=20
 f4:S.fs.length<=4
 f:∀x∈S.fs,x.ok n S.ex.length
def By (ws:List Bool) (m:Int):Int:=if ws.any id then 0 else if ws.any (!·) then m / 2 else m
def BP (b h:Int) (x:FT):Bool:=x.b==b && decide (x.f<=h) && decide (h<=x.l)
def Bj (fs:List FT) (b h:Int):List Bool:=(fs.filter (BP b h)).map FT.out
def B5 (bs:List (Int×Int)) (fs:List FT) (h:Int):List Int:=bs.zipIdx.map λq=>By (Bj fs q.2 h) q.1.1
def caps (P:PL) (S:SY):List (List Int):=(List.range S.ex.length).map fun(h:Nat)=>B5 P.bs S.fs (h:Int)
def drawn (q:Int×Int×Int) (h:Int):Int:=if h<q.2.1\/(h-q.2.1) % q.2.2≠0 then 0 else q.1
def draws (P:PL) (S:SY):List Int:=S.ex.zipIdx.map λq=>q.1+(P.es.map λe=>drawn e q.2).sum
abbrev Bd (r:List Int):PyData:= .tuple (r.map .int)
def Kn (P:PL) (S:SY):PyData:= .tuple ((caps P S).map Bd)
def Ic (P:PL) (S:SY):PyData:=Bd (draws P S)
def ret (H:Hp) (Q:VK) (p:Addr) (d:PyData):Prop:=∀v H',Ab H H'->Aa p H' d v->Q v H'
theorem Bk {l:List α}{x:α} (h:l[i]? =some x):l.take (i+1)=l.take i++[x]:=by rw [List.take_add_one,h];rfl
theorem Id {bs:List (Int×Int)}{fs:List FT}{q:Int×Int} (hq:bs[i]? =some q):(B5 bs fs h)[i]? =some (By (Bj fs i h) q.1):=by
 unfold B5;rw [List.getElem?_map,List.getElem?_zipIdx,hq];simp
theorem Ie {bs:List (Int×Int)}{fs:List FT}:(B5 bs fs h).length=bs.length:=by unfold B5;simp
theorem ET {P:PL}{S:SY} (h:i<S.ex.length):(caps P S)[i]? =some (B5 P.bs S.fs i):=by
 unfold caps;rw [List.getElem?_map,List.getElem?_range h];rfl
theorem CO {P:PL}{S:SY}:(caps P S).length=S.ex.length:=by unfold caps;simp
theorem Ig {P:PL}{S:SY}{u:Int} (hu:S.ex[i]? =some u):(draws P S)[i]? =some (u+(P.es.map λe=>drawn e i).sum):=by
 unfold draws;rw [List.getElem?_map,List.getElem?_zipIdx,hu];simp
theorem BH {P:PL}{S:SY}:(draws P S).length=S.ex.length:=by unfold draws;simp
theorem FX:BC (.str "out") (ws.map wV)=ws.any id:=by
 induction ws with
 | nil=>rfl
 | cons b ws ih=>
  unfold BC at ih ⊢
  rw [List.map_cons,List.any_cons,ih,List.any_cons]
  cases b<;>rfl
theorem Ih:BC (.str "scaled") (ws.map wV)=ws.any (!·):=by
 induction ws with
 | nil=>rfl
 | cons b ws ih=>
  unfold BC at ih ⊢
  rw [List.map_cons,List.any_cons,ih,List.any_cons]
  cases b<;>rfl
theorem FY:(ws.map wV).all CK=true:=by
 rw [List.all_map,List.all_eq_true]
 intro b _
 rfl
theorem Pd (b:Bool):BC (wV b) [.str "out",.str "scaled"]=true:=by cases b<;>rfl
theorem Ko {fs:List FT}{x:FT}{b:Int} (hx:fs[i]? =some x):Bj (fs.take (i+1)) b h=if BP b h x then Bj (fs.take i) b h++[x.out] else Bj (fs.take i) b h:=by
 unfold Bj
 rw [Bk hx,List.filter_append]
 by_cases c:BP b h x=true
 ·rw [if_pos c,List.filter_cons_of_pos c,List.map_append];rfl
 ·rw [if_neg c,List.filter_cons_of_neg c,List.filter_nil,List.append_nil]
theorem Ad.mapGot {f:α->PyData}{l:List α}{x:V} (r:Ad p H (l.map f) xs) (h:xs[i]? =some x):∃a,l[i]? =some a/\Aa p H (f a) x:=by
 obtain⟨d,hd,rd⟩:=r.got h
 rw [List.getElem?_map] at hd
 cases z:l[i]? with
 | none=>rw [z] at hd;cases hd
 | some a=>rw [z] at hd;cases hd;exact⟨a,rfl,rd⟩
theorem Ad.ints:∀ {ns:List Int}{xs:List V},Ad p H (ns.map .int) xs->xs=ns.map V.int
 | [],xs,r=>by unfold Ad at r;exact r
 | n::ns,xs,r=>by
  rw [List.map_cons] at r
  unfold Ad at r
  obtain⟨x,t,rfl,rx,rt⟩:=r
  unfold Aa at rx
  rw [rx,Ad.ints rt];rfl
theorem Ad.ofInts:∀ {ns:List Int},Ad p H (ns.map .int) (ns.map V.int)
 | []=> .nil
 | n::ns=> .cons Aa.int Ad.ofInts
theorem Ad.snoc {ds:List PyData}{d:PyData}{x:V} (r:Ad p H ds xs) (h:Aa p H d x):Ad p H (ds++[d]) (xs++[x]):=r.append (.cons h .nil)
theorem Aa.row {a:Addr}{r:List Int} (h:H a=some (.tup (r.map V.int))):Aa p H (Bd r) (.ref a):=Aa.tup h Ad.ofInts
theorem Ab.own {H':Hp}{b:Addr}{o:HO} (s:Ab H H') (n:H b=none):Ab H (upd H' b o):=λx u q=>by rw [Ap (A2 q n)];exact s x u q
theorem Ad.four {a b c d:PyData} (r:Ad p H [a,b,c,d] xs):∃x y z w,xs=[x,y,z,w]/\Aa p H a x/\Aa p H b y/\Aa p H c z/\Aa p H d w:=by
 unfold Ad at r;obtain⟨x,s,rfl,hx,r⟩:=r;unfold Ad at r;obtain⟨y,s,rfl,hy,r⟩:=r;unfold Ad at r;obtain⟨z,s,rfl,hz,r⟩:=r;unfold Ad at r;obtain⟨w,s,rfl,hw,r⟩:=r;unfold Ad at r;subst r;exact⟨x,y,z,w,rfl,hx,hy,hz,hw⟩
theorem Pe {a b:V} (h:(!decide (a=b))=true):a≠b:=by simpa using h
structure Small (n k:Nat) (d:PyData):Prop where
 w:BV d<=n
 dp:d.depth<=k
 nd:d.hasDict=false
theorem Ii {n k:Nat}:∀ {ds:List PyData},(∀d∈ds,Small n k d)->C1 ds<=(n+2) * ds.length/\PyData.depthAll ds<=k/\PyData.hasDictAll ds=false
 | [],_=>⟨by unfold C1;exact Nat.zero_le _,by unfold PyData.depthAll;exact Nat.zero_le _,rfl⟩
 | d::ds,h=>by
  obtain⟨a,b,c⟩:=Ii λx hx=>h x (List.mem_cons_of_mem _ hx)
  have s:=h d List.mem_cons_self
  refine⟨?_,?_,?_⟩
  ·unfold C1
   rw [List.length_cons,Nat.mul_add]
   have:=s.w;omega
  ·unfold PyData.depthAll;exact Nat.max_le.mpr ⟨s.dp,b⟩
  ·unfold PyData.hasDictAll;rw [s.nd,c];rfl
theorem small_tup {n k m:Nat}{ds:List PyData} (h:∀d∈ds,Small n k d) (hm:(n+2) * ds.length+4<=m):Small m (k+1) (.tuple ds):=by
 obtain⟨a,b,c⟩:=Ii h
 exact⟨by unfold BV;omega,by unfold PyData.depth;omega,by unfold PyData.hasDict;exact c⟩
theorem Pf {n k m:Nat}{ds:List PyData} (h:∀d∈ds,Small n k d) (hm:(n+2) * ds.length+4<=m):Small m (k+1) (.list ds):=by
 obtain⟨a,b,c⟩:=Ii h
 exact⟨by unfold BV;omega,by unfold PyData.depth;omega,by unfold PyData.hasDict;exact c⟩
theorem Small.nice {n k:Nat}{d:PyData} (h:Small n k d) (h1:n<=1000000) (h2:k<=20):FR d:=⟨Nat.le_trans h.w h1,Nat.le_trans h.dp h2,.inl h.nd⟩
theorem Kp {i:Int} (h:i.natAbs<10 ^ 6):Small 40 0 (.int i):=by
 refine⟨?_,Nat.le_refl 0,rfl⟩
 unfold BV
 rw [if_pos (Nat.lt_trans h (by decide))]
 exact Nat.le_refl _
theorem Pg {ws:List Bool}{m:Int} (h0:0<=m) (h9:m<=9):0<=By ws m/\By ws m<=m:=by
 unfold By
 split
 ·omega
 ·split
  ·omega
  ·omega
theorem Ei {P:PL}{S:SY} (ok:P.ok):∀r∈caps P S,(∀i∈r,0<=i/\i<=9)/\r.length=P.bs.length:=λr hr=>by
 unfold caps at hr
 obtain⟨h,_,rfl⟩:=List.mem_map.mp hr
 refine⟨λi hi=>?_,Ie⟩
 unfold B5 at hi
 obtain⟨q,hq,rfl⟩:=List.mem_map.mp hi
 obtain⟨b1,b2,_⟩:=ok.b q.1 (List.fst_mem_of_mem_zipIdx hq)
 have:=Pg (ws:=Bj S.fs q.2 h) (m:=q.1.1) (by omega) b2
 omega
theorem Ph {q:Int×Int×Int} (h1:1<=q.1) (h9:q.1<=9):0<=drawn q h/\drawn q h<=9:=by
 unfold drawn
 split<;>omega
theorem Kq {l:List Int} (h:∀i∈l,0<=i/\i<=9):0<=l.sum/\l.sum<=9 * l.length:=by
 induction l with
 | nil=>exact⟨Int.le_refl _,Int.le_refl _⟩
 | cons a l ih=>
  have:=h a List.mem_cons_self
  have:=ih λi hi=>h i (List.mem_cons_of_mem _ hi)
  rw [List.sum_cons,List.length_cons]
  omega
theorem Kr {P:PL}{S:SY} (ok:P.ok) {n:Nat} (so:S.ok n):∀i∈draws P S,0<=i/\i<=56:=λi hi=>by
 unfold draws at hi
 obtain⟨q,hq,rfl⟩:=List.mem_map.mp hi
 have a:=so.x q.1 (List.fst_mem_of_mem_zipIdx hq)
 have b:=Kq (l:=P.es.map λe=>drawn e q.2) λi hi=>by
  obtain⟨e,he,rfl⟩:=List.mem_map.mp hi
  obtain⟨e1,e2,_⟩:=ok.e e he
  exact Ph e1 e2
 rw [List.length_map] at b
 have:=ok.e4
 omega
theorem Pi {l:List Int} (h:i<l.length):l[i]? =some (l.getD i 0):=by rw [List.getD_eq_getElem?_getD,List.getElem?_eq_getElem h];rfl
theorem Pj {f e:Int}{n t:Nat} (he:1<=e):t<C3 f n e↔f+t * e<n:=by
 unfold C3 Builtin.Range.rangeSize
 rw [if_pos (by omega)]
 by_cases c:f<n
 ·rw [if_pos c]
  have h1:0<=((n:Int)-f-1)/ e:=Int.ediv_nonneg (by omega) (by omega)
  have h2:(t:Int)<=((n:Int)-f-1)/ e↔(t:Int) * e<=(n:Int)-f-1:=Int.le_ediv_iff_mul_le (by omega)
  constructor
  ·intro h
   have:=h2.mp (by omega)
   omega
  ·intro h
   have:=h2.mpr (by omega)
   omega
 ·rw [if_neg c]
  have h3:0<=(t:Int) * e:=Int.mul_nonneg (by omega) (by omega)
  constructor
  ·intro h;exact absurd h (Nat.not_lt_zero _)
  ·intro h;omega
theorem Pk {n:Nat} (h:i<n):CJ n (i:Int)=some i:=by
 unfold CJ
 rw [if_pos (by omega),if_pos (by omega)]
 rfl
theorem Pl {m:Int} (c:ws.any id=false):m /(1+if ws.any (!·)=true then 1 else 0)=By ws m:=by
 unfold By
 rw [c,if_neg (by decide:¬(false=true))]
 cases ws.any (!·) with
 | true=>rfl
 | false=>exact Int.ediv_one _
end MF
end
section
namespace L2
open PySem PySem.Spec PyProof.Rows
section
variable {X : Cx}
def Pm:List V->Hp->VK->Prop:=λxs H Q=>∃(p:Addr) (ns:List Int),xs=[.ref p]/\(H p=some (.lst (ns.map V.int))\/H p=some (.tup (ns.map V.int)))/\Q (.int ns.sum) H
theorem FZ (hc:X.calm=true):Be X (.builtin "sum") Pm:=by
 intro pins s σ H xs us Q I r h
 obtain⟨p,ns,rfl,hp,q⟩:=h
 rcases hp with hp | hp
 ·exact FW hc pins s σ H _ us Q I r ⟨p,ns,rfl,hp,q⟩
 obtain⟨u,rfl,ru⟩:=r.one
 cases ru
 obtain⟨its,rv,pl,hz⟩:=I.tuple (Ae.of hp)
 have hi:=Ib rv
 obtain⟨xs,hx⟩:=AllInts.items hi.allInts
 have e1:ns=xs.toList.map (λx=>x.fst):=by rw [<-nums_intItems,<-hx,List.toList_toArray,hi.numsOf]
 have e2:preSum (numAt xs) xs.size=ns.sum:=by
  rw [preSum_eq,List.take_of_length_le (by simp),<-e1]
 have hl:s.heap.IsTuple p (intItems xs):=hx ▸(show s.heap.IsTuple p its.toArray from pl)
 refine call_sum_walkG (wpAny_pyIter_tuple hl ?_)
 have hlt:p<s.heap.objs.size:=by
  obtain⟨o,ho,_⟩:=id hl
  exact Heap.lt_size ho
 refine⟨s.heap.objs.size,_,_,_,_,_,numAt xs,rfl,Walks.tuple (A:=X.A.in1) (I.ok.hd hc) s.heap.objs.size p (Nat.ne_of_lt hlt) (intItems xs),⟨⟨_,Heap.get?_push_size _ rfl,rfl,rfl⟩,?_⟩,λb hb=>?_,λi v hv=>intItems_at hv,λh' tk t' hk=>?_⟩
 ·obtain⟨o,ho,ho2⟩:=id hl
  exact⟨o,Heap.get?_push_of_some _ ho,ho2⟩
 ·have:b=s.heap.objs.size\/b=p:=by simpa using hb
  rw [show(s.heap.push _).objs.size=s.heap.objs.size+1 from Array.size_push _]
  rcases this with rfl | rfl
  ·exact Nat.lt_succ_self _
  ·exact Nat.lt_succ_of_lt hlt
 ·have e3:(intItems xs).size=xs.size:=Array.size_map
  rw [e3,e2]
  refine⟨.int ns.sum,H,I.kept λb o eb=>hk b o ?_ (Heap.get?_push_of_some _ eb),⟨t',rfl⟩,q⟩
  intro z
  have z':b=s.heap.objs.size:=by simpa using z
  exact absurd (Heap.lt_size eb) (by rw [z'];exact Nat.lt_irrefl _)
end
end L2
end
section
namespace MF
open PySem PySem.Spec PyProof.Rows L2
variable {P : PL} {S : SY} {F : List (List Int)} {i : Nat}
theorem _root_.L2.walk_zip {P:Program}{w:World}{K:PySem.W.Frag}{S1 S2:AV P w K}{a b:Addr}{xs ys:List V}{cap:List (Option Nat)}{g:TG}{tt:TT}{te:TE}{σ:L2.St}{Q:List V->Hp->Prop}{H:Hp} (Pv:Nat->List V->Hp->Prop) (hn:xs.length<=100000) (he:xs.length=ys.length) (h0:Pv 0 [] H) (hz:∀i zs H,Pv i zs H->zs.length<=i)
  (hl:∀i zs H,Pv i zs H->S1.Sq H a xs/\S2.Sq H b ys)
  (hs:∀i x y zs H T,xs[i]? =some x->ys[i]? =some y->Pv i zs H->H T=none->g (.ref T) (AM cap σ) (upd H T (.tup [x,y])) fun σ2 H2=>Keep (AM cap σ) σ2/\tt σ2 H2 λb H3=>br b (te σ2 H3 λy H4=>Pv (i+1) (zs++[y]) H4) (Pv (i+1) zs H3))
  (hd:∀zs H,Pv xs.length zs H->Q zs H):DS (Dn S1 S2 a b) cap g tt te σ Q H:=
 Ed xs.length Pv hn h0 hz (λi zs H hi p=>by
  obtain⟨q1,q2⟩:=hl i zs H p
  have hy:i<ys.length:=by omega
  refine⟨⟨xs,ys,xs[i],ys[i],q1,q2,by simp [hi],by simp [hy]⟩,λv H' ⟨T,e,n,y⟩=>?_⟩
  subst e
  rw [y xs ys xs[i] ys[i] q1 q2 (by simp [hi]) (by simp [hy])]
  exact hs i xs[i] ys[i] zs H T (by simp [hi]) (by simp [hy]) p n)
  λzs H p=>⟨⟨xs,ys,(hl _ zs H p).1,(hl _ zs H p).2,rfl⟩,hd zs H p⟩
theorem Ab.evOwn {H H2 H':Hp}{R:Addr} (s:Ab H H2) (n:H R=none) (e:Ev R H2 H'):Ab H H':=λb o q=>(e b o (s b o q)).elim (fun⟨z,_⟩=>by rw [z,n] at q;cases q) id
def FD (F:List (List Int)):PyData:= .tuple (F.map Bd)
structure Pn (P:PL) (S:SY) (F:List (List Int)):Prop where
 len:F.length=S.ex.length
 row:∀(i:Nat) (r:List Int),F[i]? =some r->r.length=P.bs.length
 bd:∀(i:Nat) (r:List Int) (j:Nat) (x c:Int),F[i]? =some r->r[j]? =some x->(B5 P.bs S.fs i)[j]? =some c->0<=x/\x<=c
structure Tri (p:Addr) (H:Hp) (P:PL) (S:SY) (F:List (List Int)) (v u w:V):Prop where
 ok:P.ok
 so:S.ok P.bs.length
 fo:Pn P S F
 r:Aa p H P.d v
 ru:Aa p H S.d u
 rw:Aa p H (FD F) w
def BX (F:List (List Int)) (i:Nat):Int:=(F.getD i []).sum
def Cy (P:PL) (S:SY) (i:Nat):Int:=(draws P S).getD i 0
def CP (hi m:Int):Int:=if 0>m-hi then 0 else m-hi
def AZ (P:PL) (S:SY) (F:List (List Int)):Nat->Int
 | 0=>P.st
 | i+1=>AZ P S F i+(BX F i-Cy P S i)-CP P.hi (AZ P S F i+(BX F i-Cy P S i))
def A8 (P:PL) (S:SY) (F:List (List Int)) (i:Nat):Int:=AZ P S F i+(BX F i-Cy P S i)
theorem C4:AZ P S F (i+1)=A8 P S F i-CP P.hi (A8 P S F i):=rfl
structure Po (P:PL) (S:SY) (F:List (List Int)) (k:Nat) (s:Option (Int×Int)):Prop where
 le:k<=S.ex.length
 up:∀i,i<k->P.lo<=A8 P S F i
 fin:(s=none/\k=S.ex.length)\/(k<S.ex.length/\A8 P S F k<P.lo/\s=some ((k:Int),P.lo-A8 P S F k))
theorem EU {r:List Int} (h:F[i]? =some r):BX F i=r.sum:=by unfold BX;rw [List.getD_eq_getElem?_getD,h];rfl
theorem EV {d:Int} (h:(draws P S)[i]? =some d):Cy P S i=d:=by unfold Cy;rw [List.getD_eq_getElem?_getD,h];rfl
end MF
end
section
namespace MF
open PySem PySem.Spec PyProof.Rows L2
end MF
end
section
namespace L2
open PySem PySem.Spec PyProof.Rows
theorem Pp (l:Addr) (items:Array Value) (n:Nat) (dd:Option Addr) (sl:Array (Option Value)) (u:Tok):
  Meets (Builtin.«tuple.__mul__» ⟨[.ref l,.int 1 u],[]⟩) (λ_ R s=>s.heap.get? l=some { cls:= .type "tuple",dict:=dd,data:= .seq items n,slots:=sl}/\R (.ok (.ret (Value.ref l))) s):=
 .of_wp λprog w A R s h=>by
  obtain⟨hp,g,d,tk,os⟩:=s;obtain⟨hl,h⟩:=h;have f1:=AutoSeq1.idx_int;have f2:=AutoSeq1.sub_tuple_tuple
  have ht:IsTup hp l items:=⟨_,hl,rfl,n,rfl⟩
  wp_walk using wpAny_loadPart' hl
  exact⟨_,rfl,h⟩
section
variable {X : Cx}
def Pq:R2:=λx y H Q=>∃a k xs,x= .ref a/\y= .int k/\H a=some (.tup xs)/\xs≠ []/\1<=k/\k<=100/\xs.length<=100/\Eg H (List.replicate k.toNat xs).flatten Q
theorem Pr:OpR X (binaryOp .Mult) Pq:=by
 intro pins s σ H x y v u Q I rx ry h
 obtain⟨a,k,xs,rfl,rfl,ha,hx,h1,h2,h3,q⟩:=h
 by_cases hk:k=1
 ·subst hk
  cases rx
  obtain⟨t,rfl⟩:=ry
  obtain⟨its,r,ht,hz⟩:=I.tuple (Ae.of ha)
  obtain⟨⟨cls,dd,data,sl⟩,ho,hc,n,hd⟩:=id ht;simp only at hc hd;subst hc hd
  refine wpAny_binaryOp_repeat_ref (T:="tuple") (U:="int") (by decide) ⟨_,ho,rfl⟩ (λs'=>typeIs_int s' 1 t) Kf F.fills_int_mul F.slot_int_rmul Kg F.slot_int_index.lookup
   (call_meets F.slot_int_rmul (typeIs_int s 1 t) F.entry_int_rmul (F.args_int_rmul_2 _ _) (Kh 1 t a its.toArray n dd sl) ⟨ho,rfl,⟨_,ho,rfl⟩,?_⟩)
  refine call_meets F.slot_tuple_mul ⟨_,ho,rfl⟩ F.entry_tuple_mul (F.args_tuple_mul_2 _ _) (Pp a its.toArray n dd sl t) ⟨ho,?_⟩
  refine⟨.ref a,H,I,rfl,q a H (Ab.refl _) ?_⟩
  rw [ha]
  simp
 ·exact OX pins s σ H _ _ v u Q I rx ry ⟨a,k,xs,rfl,rfl,ha,hx,by omega,h2,h3,q⟩
end
end L2
end
section
namespace L2
open PySem PySem.Spec PyProof.Rows
variable {sc : Scope}
section
variable {X : Cx}
def F3 (sc:Scope) (x:Str):Bool:=match sc.names.lookup x with | some .local =>true | some .cell=>true | some .free=>true | _=>false
def F4 (sc:Scope) (x:Str):Bool:=match sc.names.lookup x with | some .local =>true | some .cell=>true | _=>false
def F5 (sc:Scope) (x:Str):Bool:=match sc.names.lookup x with | some .local =>true | _=>false
theorem Ps {x:Str} (h:F3 sc x=true):ED sc x:=by
 unfold F3 at h
 split at h
 ·exact .inl (by assumption)
 ·exact .inr (.inl (by assumption))
 ·exact .inr (.inr (by assumption))
 ·cases h
theorem AD {x:Str} (h:F4 sc x=true):DJ sc x:=by
 unfold F4 at h
 split at h
 ·exact .inl (by assumption)
 ·exact .inr (by assumption)
 ·cases h
theorem AE {f:Bool}{x:Str} (h:(f || F5 sc x)=true):f=true\/sc.names.lookup x=some .local :=by
 rcases Bool.or_eq_true_iff.mp h with h | h
 ·exact .inl h
 ·unfold F5 at h
  split at h
  ·exact .inr (by assumption)
  ·cases h
theorem cw (i:Nat) {x:Str}{pos:Pos} (hN:X.N[i]? =some x) (hv:F3 X.env.scope x=true) (hd:(x==("__debug__" :Str) || x==("__classdict__" :Str))=false):PE X (.Name x pos) (FM i):=
 cv i hN (Ps hv) (Bool.or_eq_false_iff.mp hd).1 (Bool.or_eq_false_iff.mp hd).2
theorem Pt {x:Str}{pos:Pos} (i:Nat) (hN:X.N.Nodup) (hi:X.N[i]? =some x) (hx:F4 X.env.scope x=true) (hf:(X.fn x || F5 X.env.scope x)=true):PG X (.Name x pos) (Fm i):=M5 hN hi (AD hx) (AE hf)
def Pu (X:Cx) (i:Nat) (x:Str):Bool:=X.N[i]? ==some x &&(F3 X.env.scope x && !(x==("__debug__" :Str) || x==("__classdict__" :Str)))
theorem cx (i:Nat) {x:Str}{pos:Pos} (h:Pu X i x=true):PE X (.Name x pos) (FM i):=by
 obtain⟨h1,h2⟩:=Bool.and_eq_true_iff.mp h
 obtain⟨h2,h3⟩:=Bool.and_eq_true_iff.mp h2
 exact cw i (eq_of_beq h1) h2 (by simpa using h3)
def Pw (X:Cx) (i:Nat) (x:Str):Bool:=X.N[i]? ==some x &&(F4 X.env.scope x &&(X.fn x || F5 X.env.scope x))
theorem Ag {x:Str}{pos:Pos} (i:Nat) (hN:X.N.Nodup) (h:Pw X i x=true):PG X (.Name x pos) (Fm i):=by
 obtain⟨h1,h2⟩:=Bool.and_eq_true_iff.mp h
 obtain⟨h2,h3⟩:=Bool.and_eq_true_iff.mp h2
 exact Pt i hN (eq_of_beq h1) h2 h3
theorem AN {l:List Str} (h:decide l.Nodup=true):l.Nodup:=of_decide_eq_true h
def nS:Expr->Bool | .Starred _ _=>false | _=>true
theorem F6 {e:Expr}{es:List Expr}{env:Env} (h:nS e=true):starEach (e::es) env=(false,eval e env)::starEach es env:=by
 cases e<;>first | rfl | exact absurd h Bool.false_ne_true
section
variable {e1 e2 e3 e4 : Expr} {t1 t2 t3 t4 : TE}
theorem Al (h1:PE X e1 t1) (hs:nS e1=true):PA X [e1] (Ct t1 EH):=Fw h1 Cu (F6 hs)
theorem Aq (h1:PE X e1 t1) (h2:PE X e2 t2) (hs:(nS e1 && nS e2)=true):PA X [e1,e2] (Ct t1 (Ct t2 EH)):=Fw h1 (Al h2 (Bool.and_eq_true_iff.mp hs).2) (F6 (Bool.and_eq_true_iff.mp hs).1)
theorem AG (h1:PE X e1 t1) (h2:PE X e2 t2) (h3:PE X e3 t3) (hs:(nS e1 &&(nS e2 && nS e3))=true):PA X [e1,e2,e3] (Ct t1 (Ct t2 (Ct t3 EH))):=Fw h1 (Aq h2 h3 (Bool.and_eq_true_iff.mp hs).2) (F6 (Bool.and_eq_true_iff.mp hs).1)
theorem BI (h1:PE X e1 t1) (h2:PE X e2 t2) (h3:PE X e3 t3) (h4:PE X e4 t4) (hs:(nS e1 &&(nS e2 &&(nS e3 && nS e4)))=true):PA X [e1,e2,e3,e4] (Ct t1 (Ct t2 (Ct t3 (Ct t4 EH)))):=Fw h1 (AG h2 h3 h4 (Bool.and_eq_true_iff.mp hs).2) (F6 (Bool.and_eq_true_iff.mp hs).1)
end
end
end L2
end
section
namespace L2
open PySem PySem.Spec PyProof.Rows
section
variable {X : Cx}
section
variable {e1 e2 e3 e4 : Expr} {t1 t2 t3 t4 : TE}
end
end
end L2
end
section
namespace L2
open PySem PySem.Spec PyProof.Rows
section
variable {X : Cx}
end
end L2
namespace MF
open PySem PySem.Spec PyProof.Rows L2
end MF
end
section
namespace L2
open PySem PySem.Spec PyProof.Rows
abbrev Ds (elt tg1 it1:Expr) (ifs1:List Expr) (tg2 it2:Expr) (ifs2:List Expr) (scope:Scope) (pos:Pos):Expr:= .ListComp elt [⟨tg1,it1,ifs1,0⟩,⟨tg2,it2,ifs2,0⟩] scope pos
section
variable {prog : Program} {w : World} {A : Around} {R : Result -> Shared -> Prop} {s : Shared} {elt tg1 it1 tg2 it2 : Expr} {ifs1 ifs2 : List Expr} {scope : Scope} {pos : Pos} {it acc : Value} {env : Env}
theorem Px (h0:codeAny (model prog w) A (.compLoop (Ds elt tg1 it1 ifs1 tg2 it2 ifs2 scope pos) 1 it acc env) R s)
  (h:wpAny (model prog w) A (pyIter it) (λit' s'=>codeAny (model prog w) A (.compLoop (Ds elt tg1 it1 ifs1 tg2 it2 ifs2 scope pos) 1 it' acc env) R s') (notedBy (model prog w) A env λx s'=>R (.error x) s') s):
  codeAny (model prog w) A (.compStart (Ds elt tg1 it1 ifs1 tg2 it2 ifs2 scope pos) 1 it acc env) R s:=by
 refine codeAny_of_tree (id (wpAny_notedAt (id (id (wpAny_bind (wpAny_askSetting (wpAny_ite ?_)))))))
 split
 ·exact wpAny_bind (wpAny_pure (wpAny_pure ⟨rfl,h0⟩))
 ·exact wpAny_bind (wpAny_rule (wpAny_bind (wpAny_standAt (wpAny_bind (wpAny_mono h (λit' s' h'=>wpAny_pure ⟨rfl,h'⟩) λ_ _ z=>z)))))
end
def F7 (wi2:TI) (g2:TG) (tt2:TT) (te:TE):St->List V->Hp->(List V->Hp->Prop)->Prop:=fun σ ys H N=>wi2 σ H λJ H1=>
 ∃W:Nat->Nat->List V->Hp->Prop,(∃m,W 0 m ys H1)/\∀j m zs H,W j m zs H->
  (J.stop j H/\N zs H)\/
  (J.go j H /\ zs.length < sizeLine /\ ∃ N2 : List V -> Hp -> Prop, (∀ zs' H', N2 zs' H' -> ∃ m', m' < m /\ W (j + 1) m' zs' H') /\ ∀ x H', J.yld j H x H' -> g2 x σ H' fun σ3 H2 => Keep σ σ3 /\ tt2 σ3 H2 λb H3 =>
   br b (te σ3 H3 λy H4=>N2 (zs++[y]) H4) (N2 zs H3))
def Ks (wi:TI) (cap:List (Option Nat)) (g:TG) (tt:TT) (wi2:TI) (g2:TG) (tt2:TT) (te:TE):St->Hp->(List V->Hp->Prop)->Prop:=fun σ H Q=>wi σ H λJ H1=>
 ∃W:Nat->Nat->List V->Hp->Prop,(∃m,W 0 m [] H1)/\∀i m ys H,W i m ys H->
  (J.stop i H/\Q ys H)\/
  (J.go i H /\ ∃ N : List V -> Hp -> Prop, (∀ ys' H', N ys' H' -> ∃ m', m' < m /\ W (i + 1) m' ys' H') /\ ∀ x H', J.yld i H x H' -> g x (AM cap σ) H' fun σ2 H2 => Keep (AM cap σ) σ2 /\ tt σ2 H2 λb H3 =>
   br b (F7 wi2 g2 tt2 te σ2 ys H3 N) (N ys H3))
theorem Py {X:Cx}{tg iter tg2 iter2 elt:Expr}{ifs ifs2:List Expr}{scope:Scope}{pos pos':Pos}{wi wi2:TI}{g g2:TG}{tt tt2:TT}{te:TE}{N':List Str}{cap:List (Option Nat)}{use:Option (Value->Sem Unit)}{Q':Value->Shared->Prop}
  {pins:List (Addr×Obj)}{s:Shared}{σ:St}{H:Hp}{Q:List V->Hp->Prop}
  (hc:X.calm=true) (hi:PI X tg iter wi) (B:AS X.env.scope X.N scope N' cap) (hg:∀s H ex C,PG (AJ X N' scope s H ex C) tg g) (ht:∀s H ex C,BN (AJ X N' scope s H ex C) ifs tt)
  (hi2:∀s H ex C,PI (AJ X N' scope s H ex C) tg2 iter2 wi2) (hg2:∀s H ex C,PG (AJ X N' scope s H ex C) tg2 g2) (ht2:∀s H ex C,BN (AJ X N' scope s H ex C) ifs2 tt2) (he:∀s H ex C,PE (AJ X N' scope s H ex C) elt te)
  (hs:∀x,foldedSetIterable iter X.env x=pure x) (hs2:∀env x,foldedSetIterable iter2 env x=pure x) (I:Ac X pins σ H s) (h:Ks wi cap g tt wi2 g2 tt2 te σ H Q)
  (fin:∀(acc C:Addr) (H:Hp) (ys:List V) (s':Shared),H acc=none->Ac X pins σ (upd H acc (.lst ys)) s'->FE X pins C (upd H acc (.lst ys)) s'->Q ys H->compPost (model X.prog X.w) X.A X.xe use Q' (.ref acc) C (.ok .next) s'):
  wpAny (model X.prog X.w) X.A (comprehension (Ds elt tg iter ifs tg2 iter2 ifs2 scope pos) scope X.env pos' (newList []) false (eval iter X.env) use) Q' X.xe s:=
 JY Ol (body:=λitv acc env=>HQ (Ds elt tg iter ifs tg2 iter2 ifs2 scope pos) 0 iter2 itv acc env) (Bt:=JX JU wi2 g2 tt2 (HR te)) (Cd:=λ_=>True) hc hi B hg ht (λ_ _ _=>rfl)
  (λs H ex C a A=>Om (body:=λitv=>FF (Ds elt tg iter ifs tg2 iter2 ifs2 scope pos) 1 elt itv (.ref a) _) A rfl (hs2 _) (λ_=>rfl) Px (hi2 s H ex C) (hg2 s H ex C) (ht2 s H ex C) (JW A rfl (he s H ex C)) λ_ _ z=>z) (λ_ _ z=>⟨trivial,z⟩) hs I h fin
end L2
end
section
namespace L2
open PySem PySem.Spec PyProof.Rows
section
variable {X : Cx}
end
def Pz (J:It) (g2:TG) (tt2:TT) (te:TE) (σ:St) (ys:List V) (N:List V->Hp->Prop) (H1:Hp):Prop:=
 ∃W:Nat->Nat->List V->Hp->Prop,(∃m,W 0 m ys H1)/\∀j m zs H,W j m zs H->
  (J.stop j H/\N zs H)\/
  (J.go j H /\ zs.length < sizeLine /\ ∃ N2 : List V -> Hp -> Prop, (∀ zs' H', N2 zs' H' -> ∃ m', m' < m /\ W (j + 1) m' zs' H') /\ ∀ x H', J.yld j H x H' -> g2 x σ H' fun σ3 H2 => Keep σ σ3 /\ tt2 σ3 H2 λb H3 =>
   br b (te σ3 H3 λy H4=>N2 (zs++[y]) H4) (N2 zs H3))
def PC (J:It) (cap:List (Option Nat)) (g:TG) (tt:TT) (wi2:TI) (g2:TG) (tt2:TT) (te:TE) (σ:St) (Q:List V->Hp->Prop) (H1:Hp):Prop:=
 ∃W:Nat->Nat->List V->Hp->Prop,(∃m,W 0 m [] H1)/\∀i m ys H,W i m ys H->
  (J.stop i H/\Q ys H)\/
  (J.go i H /\ ∃ N : List V -> Hp -> Prop, (∀ ys' H', N ys' H' -> ∃ m', m' < m /\ W (i + 1) m' ys' H') /\ ∀ x H', J.yld i H x H' -> g x (AM cap σ) H' fun σ2 H2 => Keep (AM cap σ) σ2 /\ tt σ2 H2 λb H3 =>
   br b (F7 wi2 g2 tt2 te σ2 ys H3 N) (N ys H3))
end L2
namespace MF
open PySem PySem.Spec PyProof.Rows L2
def PD (P:PL) (F:List (List Int)):List Int:=(List.range P.bs.length).map λb=>(F.map λr=>r.getD b 0).sum
def coal (P:PL) (F:List (List Int)):Int:=(((PD P F).zip P.bs).map λq=>q.1 * q.2.2).sum
end MF
end
section
namespace MF
open PySem PySem.Spec PyProof.Rows L2
abbrev Lt (d:PyData):List Nat:=d.shown.cps.toList
end MF
end
section
namespace L2
open PySem PySem.Spec PyProof.Rows
theorem Ij {P:Program}{w:World}{K:PySem.W.Frag}{S1 S2:AV P w K}{a b:Addr}{xs ys:List V}{g:TG}{tb:TS}{D:CD}{σ:St}{H:Hp} (Pv:Nat->St->Hp->Prop) (he:xs.length=ys.length) (h0:Pv 0 σ H) (hl:∀i σ H,Pv i σ H->S1.Sq H a xs/\S2.Sq H b ys)
  (hs:∀i x y σ H T,xs[i]? =some x->ys[i]? =some y->Pv i σ H->H T=none->g (.ref T) σ (upd H T (.tup [x,y])) fun σ2 H2=>tb { D with nx:=Pv (i+1),ct:=Pv (i+1),bk:=D.nx} σ2 H2) (hd:∀σ H,Pv xs.length σ H->D.nx σ H):
  ∃W:Nat->Nat->St->Hp->Prop,(∃m,W 0 m σ H)/\∀i m σ H,W i m σ H->
   ((Dn S1 S2 a b).stop i H/\D.nx σ H)\/((Dn S1 S2 a b).go i H/\∃N:St->Hp->Prop,(∀σ' H',N σ' H'->∃m',m'<m/\W (i+1) m' σ' H')/\∀x H',(Dn S1 S2 a b).yld i H x H'->g x σ H' fun σ2 H2=>tb { D with nx:=N,ct:=N,bk:=D.nx} σ2 H2):=by
 refine⟨λi m σ H=>m=xs.length-i/\i<=xs.length/\Pv i σ H,⟨xs.length,by simp,Nat.zero_le _,h0⟩,?_⟩
 rintro i m σ H ⟨rfl,hi,p⟩
 obtain⟨q1,q2⟩:=hl i σ H p
 by_cases hlt:i<xs.length
 ·have hy:i<ys.length:=by omega
  refine .inr ⟨⟨xs,ys,xs[i],ys[i],q1,q2,by simp [hlt],by simp [hy]⟩,Pv (i+1),fun σ' H' p'=>⟨xs.length-(i+1),by omega,rfl,hlt,p'⟩,λv H' ⟨T,e,n,y⟩=>?_⟩
  subst e
  rw [y xs ys xs[i] ys[i] q1 q2 (by simp [hlt]) (by simp [hy])]
  exact hs i xs[i] ys[i] σ H T (by simp [hlt]) (by simp [hy]) p n
 ·obtain rfl:i=xs.length:=by omega
  exact .inl ⟨⟨xs,ys,q1,q2,rfl⟩,hd σ H p⟩
section
variable {X : Cx}
end
end L2
namespace MF
open PySem PySem.Spec PyProof.Rows L2
end MF
namespace L2
open PySem PySem.Spec PyProof.Rows
section
variable {X : Cx}
end
end L2
end
section
namespace L2
open PySem PySem.Spec PyProof.Rows
variable {tt tt2 : TT} {te : TE} {σ : St} {Q : List V -> Hp -> Prop} {H : Hp} {wi2 : TI} {g2 : TG}
theorem PF {lo:Int}{n:Nat}{g:TG}{ys:List V} (Pv:Nat->List V->Hp->Prop) (h0:Pv 0 ys H) (hz:∀i zs H,Pv i zs H->zs.length<100000)
  (hs:∀i zs H,i<n->Pv i zs H->g (.int (lo+i)) σ H fun σ2 H2=>Keep σ σ2/\tt σ2 H2 λb H3=>br b (te σ2 H3 λy H4=>Pv (i+1) (zs++[y]) H4) (Pv (i+1) zs H3))
  (hd:∀zs H,Pv n zs H->Q zs H):Pz (CH lo n) g tt te σ ys Q H:=by
 refine⟨λi m zs H=>m=n-i/\i<=n/\Pv i zs H,⟨n,by simp,Nat.zero_le _,h0⟩,?_⟩
 rintro i m zs H ⟨rfl,hi,p⟩
 by_cases hlt:i<n
 ·refine .inr ⟨hlt,Nat.lt_trans (hz i zs H p) (by decide),Pv (i+1),λzs' H' p'=>⟨n-(i+1),by omega,rfl,hlt,p'⟩,λv H' ⟨e,y⟩=>?_⟩
  subst e y
  exact hs i zs _ hlt p
 ·obtain rfl:i=n:=by omega
  exact .inl ⟨Nat.le_refl _,hd zs H p⟩
theorem PH {lo:Int}{n:Nat}{cap:List (Option Nat)}{g:TG} (Pv:Nat->List V->Hp->Prop) (h0:Pv 0 [] H)
  (hs:∀i zs H,i<n->Pv i zs H->g (.int (lo+i)) (AM cap σ) H fun σ2 H2=>Keep (AM cap σ) σ2/\tt σ2 H2 λb H3=>br b (F7 wi2 g2 tt2 te σ2 zs H3 (Pv (i+1))) (Pv (i+1) zs H3))
  (hd:∀zs H,Pv n zs H->Q zs H):PC (CH lo n) cap g tt wi2 g2 tt2 te σ Q H:=by
 refine⟨λi m zs H=>m=n-i/\i<=n/\Pv i zs H,⟨n,by simp,Nat.zero_le _,h0⟩,?_⟩
 rintro i m zs H ⟨rfl,hi,p⟩
 by_cases hlt:i<n
 ·refine .inr ⟨hlt,Pv (i+1),λzs' H' p'=>⟨n-(i+1),by omega,rfl,hlt,p'⟩,λv H' ⟨e,y⟩=>?_⟩
  subst e y
  exact hs i zs _ hlt p
 ·obtain rfl:i=n:=by omega
  exact .inl ⟨Nat.le_refl _,hd zs H p⟩
def PJ (i:Nat) (wi:TI) (cap:List (Option Nat)) (g:TG) (tt:TT) (wi2:TI) (g2:TG) (tt2:TT) (te:TE):TS:=λD σ H=>Ks wi cap g tt wi2 g2 tt2 te σ H λys H'=>∀p,H' p=none->D.nx (σ.set i (some (.ref p))) (upd H' p (.lst ys))
theorem PK {X:Cx}{i:Nat}{y:Str}{tg iter tg2 iter2 elt:Expr}{ifs ifs2:List Expr}{scope:Scope}{pos pos' pos'':Pos}{wi:TI}{g:TG} (N':List Str) (cap:List (Option Nat)) (hN:X.N.Nodup) (hin:X.N[i]? =some y) (hy:DJ X.env.scope y)
  (hc:X.calm=true) (hi:PI X tg iter wi) (B:AS X.env.scope X.N scope N' cap) (hg:∀s H ex C,PG (AJ X N' scope s H ex C) tg g) (ht:∀s H ex C,BN (AJ X N' scope s H ex C) ifs tt)
  (hi2:∀s H ex C,PI (AJ X N' scope s H ex C) tg2 iter2 wi2) (hg2:∀s H ex C,PG (AJ X N' scope s H ex C) tg2 g2) (ht2:∀s H ex C,BN (AJ X N' scope s H ex C) ifs2 tt2) (he:∀s H ex C,PE (AJ X N' scope s H ex C) elt te)
  (hsw:swapsWith (Ds elt tg iter ifs tg2 iter2 ifs2 scope pos) (some (.Name y pos')) pos''.line X.env=pure true:=by rfl)
  (hf:X.fn y=true\/X.env.scope.names.lookup y=some .local :=by first | exact .inl rfl | exact .inr rfl | assumption)
  (hs:∀x,foldedSetIterable iter X.env x=pure x:=by intro _;rfl) (hs2:∀env x,foldedSetIterable iter2 env x=pure x:=by intro _ _;rfl):PS X (.Assign [.Name y pos'] (.ListComp elt [⟨tg,iter,ifs,0⟩,⟨tg2,iter2,ifs2,0⟩] scope pos) pos'') (PJ i wi cap g tt wi2 g2 tt2 te):=by
 intro pins s σ H D I h
 rw [exec_Assign_Name_used _ _ _ _ hsw]
 refine wpAny_bind (wpAny_standAt (wpAny_bind ?_))
 show wpAny _ X.A (do let _<-comprehension (Ds elt tg iter ifs tg2 iter2 ifs2 scope pos) scope X.env _ (newList []) false (eval iter X.env) (some (assign (.Name y pos') X.env))) _ _ s
 refine wpAny_bind (wpAny_mono (Py (use:=some (assign (.Name y pos') X.env)) (Q':=λ_ s'=>SP X pins D .next s') hc hi B hg ht hi2 hg2 ht2 he hs hs2 I h λacc C H ys s' hn I' L q=>?_) (λ_ s' hq=>wpAny_pure (wpAny_pure hq)) λ_ _ e=>e)
 obtain⟨m,hm⟩:=L.ns
 refine wpAny_assign_Name (Hn I' hN hin hy (show Av (.ref acc) (.ref acc) from rfl) (λs'' I'' ⟨a,sb,ha⟩=>?_) hf)
 have hCa:C≠a:=by
  rcases ha with e | e
  ·rw [e];exact L.loc
  ·exact λz=>L.cell _ _ e z.symm
 refine⟨m,hm.sameBut sb hCa,λh' hsb=>?_⟩
 exact⟨_,_,I''.turned (t':=s''.toks) (it:=C) (λb o hb e=>hsb.extBut b o hb e) L.free L.loc (.inr L.sz) L.cell L.pin,q acc hn⟩
def PN (te:TE):TT:=fun σ H Q=>te σ H λx H'=>∃a xs,x= .ref a/\H' a=some (.lst xs)/\Q (!xs.isEmpty) H'
theorem PP {X:Cx}{a:Expr}{ta:TE} (ha:PE X a ta) (he:∀whole,isTrue a X.env whole=(do let v<-whole;standAt a.pos;holding [v] (truthy v)):=by intro _;rfl):PT X a (PN ta):=by
 intro pins s σ H Q I h
 refine isTrue_plain (Am (ha pins s σ H _ I h) λv s1 ⟨x,H1,I1,r1,q1⟩=>?_) (he _)
 obtain⟨b,xs,rfl,hb,q⟩:=q1
 cases r1
 obtain⟨its,r,pl,hz⟩:=I1.list (An.of hb)
 have hlen:=r.length
 have big:sizeLine<2 ^ 63:=by decide
 exact wpAny_truthy_list pl.isList (by simp only [List.size_toArray];omega) ⟨H1,I1.tok _,by rw [Nv r];exact q⟩
section
variable {X : Cx}
end
end L2
namespace MF
open PySem PySem.Spec PyProof.Rows L2
variable {α : Type} {xs : List α}
structure TM where
 cs:List (List Int)
 co:List Int
 ds:List Int
 lo:Int
 hi:Int
 st:Int
def TM.d (T:TM):PyData:= .tuple [FD T.cs,Bd T.co,Bd T.ds,.tuple [.int T.lo,.int T.hi,.int T.st]]
def terms (P:PL) (S:SY):TM:=⟨caps P S,P.bs.map (·.2),draws P S,P.lo,P.hi,P.st⟩
structure TM.ok (T:TM):Prop where
 l8:T.ds.length<=8
 lc:T.cs.length=T.ds.length
theorem Kt {P:PL}{S:SY}{n:Nat} (so:S.ok n):(terms P S).ok:=⟨by show(draws P S).length<=8;rw [BH];exact so.x8,by show(caps P S).length=(draws P S).length;rw [CO,BH]⟩
def part {α:Type} (xs:List α) (f l:Nat):List α:=(xs.drop f).take (l+1-f)
theorem Ku {f l:Nat} (h:f<=l) (hl:l<xs.length):(part xs f l).length=l+1-f:=by
 unfold part;rw [List.length_take,List.length_drop];omega
theorem F8 {xs:List V}{f l:Nat} (h:f<=l) (hl:l<xs.length):Bw xs (some (f:Int)) (some ((l:Int)+1))=part xs f l:=by
 have e:((l:Int)+1)=((l+1:Nat):Int):=by omega
 unfold Bw part
 rw [e,HT.sIx_nat,HT.sIx_nat,Nat.min_eq_left (by omega),Nat.min_eq_left (by omega)]
theorem Ej {β:Type}{g:α->β}{f l:Nat}:part (xs.map g) f l=(part xs f l).map g:=by
 unfold part;rw [<-List.map_drop,<-List.map_take]
theorem Ad.part {p:Addr}{H:Hp}:∀ {ds:List PyData}{xs:List V},Ad p H ds xs->∀f l,Ad p H (MF.part ds f l) (MF.part xs f l):=by
 have dr:∀ {ds:List PyData}{xs:List V},Ad p H ds xs->∀f,Ad p H (ds.drop f) (xs.drop f):=by
  intro ds
  induction ds with
  | nil=>intro xs r f;unfold Ad at r;subst r;rw [List.drop_nil,List.drop_nil];exact .nil
  | cons d ds ih=>
   intro xs r f
   have r':=r
   unfold Ad at r
   obtain⟨x,t,rfl,rx,rt⟩:=r
   cases f with
   | zero=>exact r'
   | succ f=>exact ih rt f
 have tk:∀ {ds:List PyData}{xs:List V},Ad p H ds xs->∀f,Ad p H (ds.take f) (xs.take f):=by
  intro ds
  induction ds with
  | nil=>intro xs r f;unfold Ad at r;subst r;rw [List.take_nil,List.take_nil];exact .nil
  | cons d ds ih=>
   intro xs r f
   unfold Ad at r
   obtain⟨x,t,rfl,rx,rt⟩:=r
   cases f with
   | zero=>exact .nil
   | succ f=>exact .cons rx (ih rt f)
 intro ds xs r f l
 exact tk (dr r f) _
def most (T:TM) (f l:Nat):Int:=((part T.cs f l).map List.sum).sum
def Dt (T:TM) (f l:Nat):Int:=(part T.ds f l).sum
def Bz (T:TM) (f l:Nat):Bool:=decide ((if f=0 then T.st else T.hi)+most T f l<Dt T f l+T.lo)
def Cz (f k:Nat):List (Nat×Nat):=(List.range k).map λi=>(f,f+i)
def BY (n k:Nat):List (Nat×Nat):=((List.range k).map λf=>Cz f (n-f)).flatten
abbrev pD (q:Nat×Nat):PyData:= .tuple [.int q.1,.int q.2]
theorem PQ {f k:Nat}:Cz f (k+1)=Cz f k++[(f,f+k)]:=by unfold Cz;rw [List.range_succ,List.map_append];rfl
theorem Kv {f k:Nat}:(Cz f k).length=k:=by unfold Cz;simp
theorem Kw {n k:Nat}:BY n (k+1)=BY n k++Cz k (n-k):=by unfold BY;rw [List.range_succ,List.map_append,List.flatten_append];simp
theorem Kx {n k:Nat}:(BY n k).length<=n * k:=by
 induction k with
 | zero=>exact Nat.le_refl _
 | succ k ih=>rw [Kw,List.length_append,Kv,Nat.mul_succ];omega
theorem Ky {n k:Nat} (h:k<=n):∀q∈BY n k,q.1<=q.2/\q.2<n:=by
 intro q hq
 unfold BY at hq
 obtain⟨l,hl,hq⟩:=List.mem_flatten.mp hq
 obtain⟨f,hf,rfl⟩:=List.mem_map.mp hl
 obtain⟨i,hi,rfl⟩:=List.mem_map.mp hq
 have:=List.mem_range.mp hf
 have:=List.mem_range.mp hi
 exact⟨by show f<=f+i;omega,by show f+i<n;omega⟩
def Ek (T:TM):List (Nat×Nat):=(BY T.ds.length T.ds.length).filter λq=>Bz T q.1 q.2
def AK (T:TM):Option (Nat×Nat):=(Ek T).head?
def Kz:Option (Nat×Nat)->PyData
 | none=> .none
 | some q=>pD q
def Bv (T:TM) (f:Nat):Nat->Int
 | 0=>if f=0 then T.st else T.hi
 | k+1=>Bv T f k+(T.cs.getD (f+k) []).sum-T.ds.getD (f+k) 0
theorem KA {f k:Nat}{x:α} (h:xs[f+k]? =some x):(xs.drop f).take (k+1)=(xs.drop f).take k++[x]:=Bk (by rw [List.getElem?_drop];exact h)
theorem Ik {T:TM} (ok:T.ok) {f:Nat}:∀k,f+k<=T.ds.length->Bv T f k=(if f=0 then T.st else T.hi)+(((T.cs.drop f).take k).map List.sum).sum-((T.ds.drop f).take k).sum
 | 0,_=>by rw [List.take_zero,List.take_zero,List.map_nil,List.sum_nil];show(if f=0 then T.st else T.hi)=_;omega
 | k+1,h=>by
  have ih:=Ik ok (f:=f) k (by omega)
  have lc:=ok.lc
  have h1:T.cs[f+k]? =some (T.cs.getD (f+k) []):=by rw [List.getD_eq_getElem?_getD,List.getElem?_eq_getElem (by omega)];rfl
  have h2:T.ds[f+k]? =some (T.ds.getD (f+k) 0):=Pi (by omega)
  rw [KA h1,KA h2,List.map_append,List.sum_append,List.sum_append,List.map_cons,List.map_nil,List.sum_cons,List.sum_nil,List.sum_cons,List.sum_nil]
  show Bv T f k+_-_=_
  omega
def F9 (T:TM) (f l:Nat):Bool:=decide (Bv T f (l+1-f)<T.lo)
theorem KB {T:TM} (ok:T.ok) {f l:Nat} (h:f<=l) (hl:l<T.ds.length):F9 T f l=Bz T f l:=by
 unfold F9 Bz most Dt part
 rw [Ik ok _ (by omega),Bool.eq_iff_iff,decide_eq_true_eq,decide_eq_true_eq]
 omega
end MF
end
section
namespace L2
open PySem PySem.Spec PyProof.Rows
section
variable {X : Cx} {pos : Pos}
end
end L2
end
section
namespace L2
open PySem PySem.Spec PyProof.Rows
theorem KC {its:List Value}{ns:List Int} (rv:Au (ns.map V.int) its):∃ys:Array (Int×Tok),its.toArray=intItems ys/\∀a,a∈ns↔ ∃j,j<ys.size/\numAt ys j=a:=by
 have hi:IntsAre its ns:=NK rv
 obtain⟨ys,e⟩:=hi.allInts.items
 refine⟨ys,e,λa=>?_⟩
 have en:ys.toList.map (·.1)=ns:=by rw [<-nums_intItems,<-e];exact hi.numsOf
 rw [<-en,List.mem_map]
 constructor
 ·rintro⟨y,hy,z⟩
  obtain⟨j,hj,z2⟩:=List.mem_iff_getElem.mp hy
  have hj':j<ys.size:=by simpa using hj
  refine⟨j,hj',?_⟩
  have z3:ys[j]=y:=by simpa using z2
  unfold numAt
  simp [hj',z3,z]
 ·rintro⟨j,hj,z⟩
  refine⟨ys[j],by simp,?_⟩
  rw [<-z]
  unfold numAt
  simp [hj]
theorem KD {ys:Array (Int×Tok)}{ns:List Int} (pl:∀a,a∈ns↔ ∃j,j<ys.size/\numAt ys j=a) (ne:ns≠ []):0<ys.size:=by
 obtain⟨a,ha⟩:=List.exists_mem_of_ne_nil ns ne
 obtain⟨j,hj,_⟩:=(pl a).mp ha
 exact Nat.lt_of_le_of_lt (Nat.zero_le j) hj
section
variable {X : Cx}
theorem call_maxL (hc:X.calm=true):Be X (.builtin "max") (λxs H Q=>∃(p:Addr) (ns:List Int),xs=[.ref p]/\H p=some (.lst (ns.map V.int))/\ns≠ []/\∀M,M∈ns->(∀a∈ns,a<=M)->Q (.int M) H):=by
 intro pins s σ H xs us Q I r h
 obtain⟨p,ns,rfl,hp,hne,q⟩:=h
 obtain⟨u,rfl,ru⟩:=r.one
 cases ru
 obtain⟨its,rv,pl,hz⟩:=I.list (An.of hp)
 obtain⟨ys,e,at_⟩:=KC rv
 have pos:=KD at_ hne
 have best:=argBest_gt (numAt ys) (ys.size-1)
 refine max_intList (I.ok.hd hc) (by rw [<-e];exact pl.isList) pos λv g tk hv kp=>?_
 obtain⟨t,z⟩:=intItems_at hv
 rw [z]
 refine⟨.int _,H,I.kept kp,⟨t,rfl⟩,q _ ((at_ _).mpr ⟨_,by omega,rfl⟩) λa ha=>?_⟩
 obtain⟨j,hj,y⟩:=(at_ a).mp ha
 rw [<-y]
 exact best.2 j (by omega)
theorem PR (hc:X.calm=true):Be X (.builtin "min") (λxs H Q=>∃(p:Addr) (ns:List Int),xs=[.ref p]/\H p=some (.lst (ns.map V.int))/\ns≠ []/\∀M,M∈ns->(∀a∈ns,M<=a)->Q (.int M) H):=by
 intro pins s σ H xs us Q I r h
 obtain⟨p,ns,rfl,hp,hne,q⟩:=h
 obtain⟨u,rfl,ru⟩:=r.one
 cases ru
 obtain⟨its,rv,pl,hz⟩:=I.list (An.of hp)
 obtain⟨ys,e,at_⟩:=KC rv
 have pos:=KD at_ hne
 have best:=argBest_lt (numAt ys) (ys.size-1)
 refine min_intList (I.ok.hd hc) (by rw [<-e];exact pl.isList) pos λv g tk hv kp=>?_
 obtain⟨t,z⟩:=intItems_at hv
 rw [z]
 refine⟨.int _,H,I.kept kp,⟨t,rfl⟩,q _ ((at_ _).mpr ⟨_,by omega,rfl⟩) λa ha=>?_⟩
 obtain⟨j,hj,y⟩:=(at_ a).mp ha
 rw [<-y]
 exact best.2 j (by omega)
end
section
variable {X : Cx}
end
section
variable {X : Cx}
end
end L2
end
section
namespace L2
open PySem PySem.Spec PyProof.Rows
open AutoSeq1 (wpAny_loadPart')
structure ZA3 (z TI TO i1 i2 i3 l1 l2 l3:Addr):Prop where
 TI_z:TI≠z
 TO_z:TO≠z
 TO_TI:TO≠TI
 i1_z:i1≠z
 i1_TI:i1≠TI
 i1_TO:i1≠TO
 i2_z:i2≠z
 i2_TI:i2≠TI
 i2_TO:i2≠TO
 i2_i1:i2≠i1
 i3_z:i3≠z
 i3_TI:i3≠TI
 i3_TO:i3≠TO
 i3_i1:i3≠i1
 i3_i2:i3≠i2
 l1_z:l1≠z
 l1_TO:l1≠TO
 l1_i1:l1≠i1
 l1_i2:l1≠i2
 l1_i3:l1≠i3
 l2_z:l2≠z
 l2_TO:l2≠TO
 l2_i1:l2≠i1
 l2_i2:l2≠i2
 l2_i3:l2≠i3
 l3_z:l3≠z
 l3_TO:l3≠TO
 l3_i1:l3≠i1
 l3_i2:l3≠i2
 l3_i3:l3≠i3
section
variable {P : Program} {w : World} {K : PySem.W.Frag} {A : Around} {E : Value -> Shared -> Prop} {s : Shared} (S1 S2 S3 : AV P w K)
end
end L2
end
section
namespace L2
open PySem PySem.Spec PyProof.Rows
open AutoSeq1 (wpAny_loadPart')
end L2
end
section
namespace L2
open PySem PySem.Spec PyProof.Rows
section
variable {X : Cx}
def KF (a b:TI):TI:=fun σ H R=>a σ H R\/b σ H R
theorem KG {tg it:Expr}{a b:TI} (ha:PI X tg it a) (hb:PI X tg it b):PI X tg it (KF a b):=λpins s σ H R I h=>h.elim (λq=>ha pins s σ H R I q) λq=>hb pins s σ H R I q
end
section
variable {X : Cx}
end
section
variable {prog : Program} {w : World} {A : Around} {R : Result -> Shared -> Prop} {s : Shared} {elt tg1 it1 tg2 it2 tg3 it3 : Expr} {ifs1 ifs2 ifs3 : List Expr} {scope : Scope} {pos : Pos} {it acc : Value} {env : Env}
end
def PU (wi2:TI) (g2:TG) (tt2:TT) (wi3:TI) (g3:TG) (tt3:TT) (te:TE):St->List V->Hp->(List V->Hp->Prop)->Prop:=fun σ ys H N=>wi2 σ H λJ H1=>
 ∃W:Nat->Nat->List V->Hp->Prop,(∃m,W 0 m ys H1)/\∀j m zs H,W j m zs H->
  (J.stop j H/\N zs H)\/
  (J.go j H /\ ∃ N2 : List V -> Hp -> Prop, (∀ zs' H', N2 zs' H' -> ∃ m', m' < m /\ W (j + 1) m' zs' H') /\ ∀ x H', J.yld j H x H' -> g2 x σ H' fun σ3 H2 => Keep σ σ3 /\ tt2 σ3 H2 λb H3 =>
   br b (F7 wi3 g3 tt3 te σ3 zs H3 N2) (N2 zs H3))
theorem Ac.gotList {X:Cx}{pins:List (Addr×Obj)}{σ:St}{H:Hp}{s:Shared}{h':Heap}{tk n:Nat}{T:Addr}{vs:List V}{us:List Value} (I:Ac X pins σ H s)
  (k:∀b o,s.heap.get? b=some o->h'.get? b=some o) (hT:s.heap.objs.size<=T) (ht:h'.get? T=some { cls:= .type "list",data:= .seq us.toArray n}) (rv:Au vs us) (hz:vs.length<=sizeLine):
  Ac X pins σ (upd H T (.lst vs)) { s with heap:=h',toks:=tk}:=by
 have hfr:H T=none:=I.hok.fresh hT
 have nT:∀b u,H b=some u->b≠T:=λb u e=>A2 e hfr
 refine I.step (g':=s.gens) (d':=s.drawn) (ch:=[]) (λb hb=>absurd hb (by simp)) (λb o _ _ hc e _=>k b o e) (λb o _ _ hc e _=>⟨o.slots,k b o e⟩)
  (λb o hc e n=>?_) (λb o hc e=>⟨o,k b o e⟩) (λb xs e=>by rw [Ap (nT b _ e)];exact e) (λb o xs e=>by rw [Ap (nT b _ e)];exact e) (λb ps e=>⟨#[],by rw [Ap (nT b _ e),e];simp⟩) (λm hm=>?_) (λb u e=>?_) I.bare
 ·rw [Ap (Nat.ne_of_lt (Nat.lt_of_lt_of_le (Heap.lt_size e) hT))];exact n
 ·obtain⟨o,es,ep,ho,r⟩:=hm
  exact⟨o,es,ep,k _ o ho,r⟩
 ·by_cases hb:b=T
  ·subst hb
   rw [Ai] at e;cases e
   exact⟨hz,us,n,rv,ht⟩
  ·rw [Ap hb] at e
   exact(I.hok b u e).stay (λc v hc q=>k c v q) (λc q=>by rw [Ap (nT c _ q)];exact q) λc xs q=>by rw [Ap (nT c _ q)];exact q
section
variable {X : Cx}
end
def WalkO (J:It) (cap:List (Option Nat)) (g:TG) (tt:TT) (wi2:TI) (g2:TG) (tt2:TT) (wi3:TI) (g3:TG) (tt3:TT) (te:TE) (σ:St) (Q:List V->Hp->Prop) (H1:Hp):Prop:=
 ∃W:Nat->Nat->List V->Hp->Prop,(∃m,W 0 m [] H1)/\∀i m ys H,W i m ys H->
  (J.stop i H/\Q ys H)\/
  (J.go i H /\ ∃ N : List V -> Hp -> Prop, (∀ ys' H', N ys' H' -> ∃ m', m' < m /\ W (i + 1) m' ys' H') /\ ∀ x H', J.yld i H x H' -> g x (AM cap σ) H' fun σ2 H2 => Keep (AM cap σ) σ2 /\ tt σ2 H2 λb H3 =>
   br b (PU wi2 g2 tt2 wi3 g3 tt3 te σ2 ys H3 N) (N ys H3))
end L2
end
section
namespace L2
open PySem PySem.Spec PyProof.Rows
def C5 (i j k:Int):List Int:=(List.range (C3 i j k)).map λt:Nat=>i+(t:Int) * k
theorem PV {n:Nat}{i k:Int}{acc:Array Value} (h:ItemsOf (λt v=>∃u,v=Value.int (i+(t:Int) * k) u) acc n):Au (((List.range n).map λt:Nat=>i+(t:Int) * k).map V.int) acc.toList:=by
 have go:∀(m:Nat) (us:List Value),us.length=m->(∀(j:Nat) (v:Value),us[j]? =some v->∃t,v= .int (i+(j:Int) * k) t)->Au (((List.range m).map λt:Nat=>i+(t:Int) * k).map V.int) us:=by
  intro m
  induction m with
  | zero=>intro us hl _;cases us with
   | nil=>exact .nil
   | cons _ _=>cases hl
  | succ m ih=>
   intro us hl hu
   have hne:us≠ []:=λe=>by rw [e] at hl;cases hl
   have e:us=us.dropLast++[us.getLast hne]:=(List.dropLast_concat_getLast hne).symm
   have hdl:us.dropLast.length=m:=by rw [List.length_dropLast,hl];rfl
   rw [List.range_succ,List.map_append,List.map_append,e]
   refine(ih us.dropLast hdl λj v hv=>?_).append (.cons ?_ .nil)
   ·refine hu j v ?_
    rw [e,List.getElem?_append_left (List.getElem?_eq_some_iff.mp hv).1];exact hv
   ·refine hu m _ ?_
    rw [List.getLast_eq_getElem,List.getElem?_eq_some_iff]
    exact⟨by omega,by congr 1;omega⟩
 refine go n acc.toList (by simpa using h.1) λj v hv=>?_
 exact h.2 j v (by simpa using hv)
section
variable {X : Cx}
def PX (ta:TA):TE:=fun σ H Q=>ta σ H λvs H1=>∃i j k:Int,vs=[.int i,.int j,.int k]/\(-1000<=i/\i<=1000/\ -1000<=j/\j<=1000/\1<=k/\k<=1000)/\∀p,H1 p=none->Q (.ref p) (upd H1 p (.lst ((C5 i j k).map V.int)))
theorem PY {a b c:Expr}{ta:TA}{p pos p2 pos2:Pos} (hc:X.calm=true) (hg0:Gl X "list") (hm0:X.mg "list"=none) (hg:Gl X "range") (hm:X.mg "range"=none) (ha:PA X [a,b,c] ta)
  (hs0:starEach [.Call (.Name "range" p2) [a,b,c] [] pos2] X.env=[(false,eval (.Call (.Name "range" p2) [a,b,c] [] pos2) X.env)]:=by rfl) (hs:starEach [a,b,c] X.env=(false,eval a X.env)::starEach [b,c] X.env:=by rfl) (hs2:starEach [b,c] X.env=[(false,eval b X.env),(false,eval c X.env)]:=by rfl):
  PE X (.Call (.Name "list" p) [.Call (.Name "range" p2) [a,b,c] [] pos2] [] pos) (PX ta):=by
 intro pins s σ H Q I h
 refine Call_ (B1 I hg0 hm0 HX (PyProof.Rows.callWith_type1 (by
  rw [hs0]
  refine Calls.spliced_cons (Call_ (B1 I hg hm boot_range (PyProof.Rows.callWith_type1 (Am (ha pos2 pins s σ H _ I h) λus s1 ⟨vs,H1,I1,r1,q1⟩=>?_) hs (by rw [hs2];rfl))))
  obtain⟨i,j,k,e,⟨q1,q2,q3,q4,q5,q6⟩,q⟩:=q1
  subst e
  rcases r1 with _ | ⟨r,r1⟩
  rcases r1 with _ | ⟨r',r1⟩
  rcases r1 with _ | ⟨r'',r1⟩
  cases r1
  obtain⟨t,rfl⟩:=r
  obtain⟨t',rfl⟩:=r'
  obtain⟨t'',rfl⟩:=r''
  have hk:k.natAbs.log2<30:=by
   by_cases z:k.natAbs=0
   ·omega
   ·exact(Nat.log2_lt z).mpr (show k.natAbs<2 ^ 30 by omega)
  have ndv:Builtin.divisionGoesByPylong (j-i) k=false:=by
   unfold Builtin.divisionGoesByPylong
   dsimp only
   rw [show(decide ((if (k==0)=true then 0 else k.natAbs.log2 / 30+1) >300))=false from decide_eq_false (by
    split
    ·omega
    ·rw [Nat.div_eq_of_lt hk];omega),Bool.false_and]
  refine call_range_3 (by omega) (Calls.spliced_nil ?_) (.inl ndv)
  have hsz:(s1.heap.push { cls:= .type "range",data:= .fields #[.int i t,.int j t',.int k t'']}).objs.size=s1.heap.objs.size+1:=Heap.size_push ..
  obtain⟨b0,b1⟩:=Km q5 q1 q4
  refine call_list_range (n:=C3 i j k) (I.ok.hd hc) (IsRange.new ..) (Pb q5 q6 q1 q2 q3 q4) (by unfold C3;omega) (by unfold C3;omega) λh' tk acc' c' hk hS hacc=>?_
  have hv:=PV hacc
  have I2:=I1.gotList (tk:=tk) (T:=s1.heap.objs.size+1) (us:=acc'.toList) (n:=c') (λb o e=>hk b o (Heap.get?_push_of_some _ e)) (Nat.le_succ _) (by rw [<-hsz];simpa using hS) hv (by
   rw [List.length_map,List.length_map,List.length_range]
   have:(3000:Nat)<=sizeLine:=by decide
   unfold C3;omega)
  refine⟨.ref (s1.heap.objs.size+1),_,I2,?_,q _ (I1.hok.fresh (Nat.le_succ _))⟩
  show Av (.ref (s1.heap.objs.size+1)) (.ref _)
  rw [<-hsz];rfl) hs0 rfl))
end
theorem PZ {i j k:Int}:((C5 i j k).map V.int).all CK=true:=by
 rw [List.all_eq_true]
 intro x hx
 obtain⟨a,_,rfl⟩:=List.mem_map.mp hx
 rfl
end L2
namespace MF
open PySem PySem.Spec PyProof.Rows L2
theorem P0 {f e:Int}{h:Nat} (he:1<=e) (h8:h<8):BC (.int (h:Int)) ((C5 f 8 e).map V.int)=decide (¬((h:Int)<f\/((h:Int)-f) % e≠0)):=by
 unfold BC C5
 rw [List.map_map,List.any_map]
 have key:((List.range (C3 f 8 e)).any ((λy=>CL y (V.int (h:Int))) ∘V.int∘λt:Nat=>f+(t:Int) * e))=true↔ ¬((h:Int)<f\/((h:Int)-f) % e≠0):=by
  rw [List.any_eq_true]
  constructor
  ·rintro⟨t,ht,q⟩
   have q':(f+(t:Int) * e==(h:Int))=true:=q
   have q':f+(t:Int) * e=(h:Int):=by simpa using q'
   have h3:0<=(t:Int) * e:=Int.mul_nonneg (by omega) (by omega)
   rintro(c | c)
   ·omega
   ·apply c
    rw [show(h:Int)-f=(t:Int) * e by omega]
    exact Int.mul_emod_left _ _
  ·intro c
   have c1:¬(h:Int)<f:=λz=>c (.inl z)
   have c2:((h:Int)-f) % e=0:=by
    by_cases z:((h:Int)-f) % e=0
    ·exact z
    ·exact absurd (.inr z) c
   have hd:((h:Int)-f)=((h:Int)-f)/ e * e:=by
    have:=Int.emod_add_mul_ediv ((h:Int)-f) e
    rw [c2] at this
    rw [Int.mul_comm];omega
   have h0:0<=((h:Int)-f)/ e:=Int.ediv_nonneg (by omega) (by omega)
   refine⟨(((h:Int)-f)/ e).toNat,List.mem_range.mpr ((Pj (n:=8) he).mpr ?_),?_⟩
   ·rw [Int.toNat_of_nonneg h0]
    show f+_<(8:Int)
    omega
   ·show(f+((((h:Int)-f)/ e).toNat:Int) * e==(h:Int))=true
    rw [Int.toNat_of_nonneg h0,beq_iff_eq]
    omega
 cases z:((List.range (C3 f 8 e)).any ((λy=>CL y (V.int (h:Int))) ∘V.int∘λt:Nat=>f+(t:Int) * e)) with
 | true=>exact(decide_eq_true (key.mp z)).symm
 | false=>exact(decide_eq_false λc=>by rw [key.mpr c] at z;cases z).symm
end MF
end
section
namespace L2
open PySem PySem.Spec PyProof.Rows
section
variable {X : Cx}
end
end L2
end
section
namespace L2
open PySem PySem.Spec PyProof.Rows
open AutoSeq1 (wpAny_loadPart')
section
variable {P : Program} {w : World} {K : PySem.W.Frag} {A : Around} {E : Value -> Shared -> Prop} {s : Shared} (S1 S2 : AV P w K)
end
end L2
end
section
namespace L2
open PySem PySem.Spec PyProof.Rows
section
variable {X : Cx}
section
open HT
variable {prog : Program} {w : World} {A : Around} {E : Value -> Shared -> Prop} {s : Shared}
end
end
theorem ObjOk.there {P:Program}{w:World}{H:Hp}{h:Heap}{a:Addr}{o:HO} (x:ObjOk P w H h a o):∃u,h.get? a=some u:=by
 cases o with
 | lst xs=>obtain⟨_,_,_,_,e⟩:=x;exact⟨_,e⟩
 | tup xs=>obtain⟨_,_,_,o,e,_⟩:=x;exact⟨_,e⟩
 | dK kvs=>obtain⟨_,_,_,_,o,_,_,e,_⟩:=x;exact⟨_,e⟩
 | dT kvs=>obtain⟨_,_,_,_,o,_,_,e,_⟩:=x;exact⟨_,e⟩
 | set S n=>obtain⟨o,_,_,_,e,_⟩:=x;exact⟨_,e⟩
 | ins C dx fs=>obtain⟨_,_,_,e,_⟩:=x;exact⟨_,e⟩
 | own y=>obtain⟨_,e⟩:=x;exact⟨_,e⟩
 | xd fs=>obtain⟨_,⟨_,_,_,e,_⟩,_⟩:=x;exact⟨_,e⟩
 | rng lo hi=>obtain⟨_,_,_,e⟩:=x;exact⟨_,e⟩
 | frz ob u=>obtain⟨e,_⟩:=x;exact⟨_,e⟩
 | tbl ps=>exact⟨_,x⟩
 | met f y=>exact⟨_,x⟩
 | ext φ=>obtain⟨_,⟨_,e⟩,_⟩:=x;exact⟨_,e⟩
structure P1 (P:Program) (w:World) (outer:List Env) (H:Hp) (s:Shared) (H':Hp) (C e:Addr) (s':Shared):Prop where
 os:s'.os=s.os
 bare:AllBare s'.gens
 un:Un (Br outer) [] H H' s.heap s'.heap
 fly:∃B t,Heap.FlyingW B outer e (.ref C) t s'.heap/\(∀b o,s.heap.get? b=some o->H b=none->b ∉ Br outer->B.get? b=some o)/\
  (∀b o,s.heap.get? b=some o->b ∉ Br outer->∃o',B.get? b=some o')/\HOk P w H' B
def KH (P:Program) (w:World):B3:=λouter H s E v s'=>∃C e H',v= .ref e/\P1 P w outer H s H' C e s'/\E (.ref C) none H'
structure IsDef (X:Cx) (E:XK):Prop where
 stk:X.stack=X.env::X.outer
 fr:X.env.frame=some X.env.locals
 ex:X.ex=[]
 xe:∀e s',wpAny (model X.prog X.w) X.A (leaving X.env e) (λ_ s''=>KH X.prog X.w X.outer X.H₀ X.s₀ E e s'') (λ_ _=>False) s'->X.xe e s'
section
variable {X : Cx} {pins : List (Addr × Obj)} {σ : St} {H H' : Hp} {s s' : Shared} {C e : Addr} {E : XK}
end
end L2
end
section
namespace L2
open PySem PySem.Spec PyProof.Rows PySem.W Builtin Builtin.ObjectAttr Builtin.Getset_descriptor
section
variable {prog : Program} {w : World} {A : Around} {E : Value -> Shared -> Prop} {s : Shared} {K : Frag} {x D : Addr}
structure ExcCls (K:Frag) (D:Addr):Prop where
 ga:findIn K (.ref D) "__getattribute__"=some (some (.builtin "BaseException.__getattribute__"))
 gt:findIn K (.ref D) "__getattr__"=some none
 cl:(clsIn K D).isSome=true
 ca:findIn K (.ref D) "__class__"=some (some (.builtin "object.__class__"))
 cn:specialIn K (.builtin "object.__class__") "__get__"=some (some (.builtin "getset_descriptor.__get__"))
 tk:takesIn K (.builtin "object.__class__")=some true
 ob:mroIn K D (.type "object")=some true
 bx:mroIn K D (.type "BaseException")=some true
end
section
variable {X : Cx} {pins : List (Addr × Obj)} {σ : St} {H : Hp} {s : Shared} {A : Around} {E : Value -> Shared -> Prop} {Q : Value -> Shared -> Prop} {c : Value} {b : Bool} {a D : Addr}
end
end L2
end
section
namespace L2
open PySem PySem.Spec PyProof.Rows
section
variable {X : Cx} {E : XK} {st : Stmt} {rest : List Stmt} {t : TS}
end
section
variable {P : Program} {w : World} {K : PySem.W.Frag} {mg : Str -> Option Value} {base : Heap}
structure FnE (P:Program) (w:World) (K:PySem.W.Frag) (mg:Str->Option Value) (base:Heap) (n:Nat) (x:Str) (ps:List Str) (sp:Sp):Prop where
 ex:∃(f:Addr) (fd:FuncData),Cv P w K mg base (KH P w) n f fd ps sp/\mg x=some (.ref f)/\PySem.W.keepIn K (.ref f)=true/\Binds K fd ps []
end
section
variable {X : Cx} {pins : List (Addr × Obj)} {σ : St} {H : Hp} {s s' : Shared} {scope : Scope} {N' : List Str} {cap : List (Option Nat)} {A : Around} {outer : List Env} {qual : Str} {f : Addr} {cd : Value} {E : XK}
end
section
variable {X : Cx} {pins : List (Addr × Obj)} {σ : St} {H H' : Hp} {s s' : Shared}
end
structure P2 (k:Nat) (A:Around):Prop where
 dp:A.depth+3 * k+5<recursionLimit
 un:A.units+16 * k+200<cLine
 gd:A.guards=some []
section
variable {P : Program} {w : World} {K : PySem.W.Frag} {mg : Str -> Option Value} {base : Heap}
structure FnQ (P:Program) (w:World) (K:PySem.W.Frag) (mg:Str->Option Value) (base:Heap) (n:Nat) (x:Str) (ps:List Str) (sp:Sp):Prop where
 ex:∃(f:Addr) (fd:FuncData),(∀(A:Around) (outer:List Env) (s:Shared) (H:Hp) (args:Args) (us:List Value) (vs:List V) (Q:VK),P2 n A->Ea P w K mg base A outer s H->BindsTo s fd args (ps.zip us)->Au vs us->sp vs H Q E0->
  codeAny (model P w) A (.call (.ref f) args) (CR CX0 outer P w H s Q E0) s)/\(∀vs H Q E,sp vs H Q E->vs.length=ps.length)/\mg x=some (.ref f)/\PySem.W.keepIn K (.ref f)=true/\Binds K fd ps []
structure FnS (P:Program) (w:World) (K:PySem.W.Frag) (mg:Str->Option Value) (base:Heap) (n:Nat) (x:Str) (ps:List Str) (sp:List Env->Shared->Sp):Prop where
 ex:∃(f:Addr) (fd:FuncData),(∀(A:Around) (outer:List Env) (s:Shared) (H:Hp) (args:Args) (us:List Value) (vs:List V) (Q:VK),Bb n A->Ea P w K mg base A outer s H->BindsTo s fd args (ps.zip us)->Au vs us->sp outer s vs H Q E0->
  codeAny (model P w) A (.call (.ref f) args) (CR CX0 outer P w H s Q E0) s)/\mg x=some (.ref f)/\PySem.W.keepIn K (.ref f)=true/\Binds K fd ps []
end
section
variable {X : Cx} {H : Hp} {f : Addr} {Q : VK} {W : Addr -> Str -> Prop}
end
section
variable {X : Cx} {H : Hp} {f M : Addr} {Q : VK} {W : Addr -> Str -> Prop} {s1 : Shared}
end
section
variable {X : Cx} {pins : List (Addr × Obj)} {σ : St} {H : Hp} {s : Shared} {scope : Scope} {N' : List Str} {cap : List (Option Nat)} {P c : Addr} {ql : Str} {params : Arguments} {body : Expr} {pos : Pos}
end
section
variable {X : Cx} {scope : Scope} {N' : List Str} {cap : List (Option Nat)} {P c : Addr} {ql : Str} {params : Arguments} {body : Expr} {lpos p pos : Pos} {W : Addr -> Str -> Prop} {k : Nat} {te : XK -> TE}
end
section
variable {X : Cx}
end
def KI:List Str:=["plant","story","firing","hour","boiler","prices","way","set","tanks","pump","feeding","readings","start","shifts","book","amount","deed","line","text"]
def KJ (K:PySem.W.Frag) (M:Addr) (ds:List Addr) (i:Nat):Bool:=
 (PySem.W.findIn K (.ref (ds.getD i 0)) "__getattribute__"==some (some (.builtin "BaseException.__getattribute__"))) &&(PySem.W.findIn K (.ref (ds.getD i 0)) "__getattr__"==some none) &&(PySem.W.clsIn K (ds.getD i 0)).isSome &&
 (PySem.W.findIn K (.ref (ds.getD i 0)) "__class__"==some (some (.builtin "object.__class__"))) &&(PySem.W.specialIn K (.builtin "object.__class__") "__get__"==some (some (.builtin "getset_descriptor.__get__"))) &&(PySem.W.takesIn K (.builtin "object.__class__")==some true) &&
 (PySem.W.mroIn K (ds.getD i 0) (.type "object")==some true) &&(PySem.W.mroIn K (ds.getD i 0) (.type "BaseException")==some true) &&(PySem.W.mroIn K (ds.getD i 0) (.ref M)==some true) &&
 ((List.range 19).all λj=>PySem.W.kitOne K (.ref (ds.getD i 0)) (.ref (ds.getD j 0))==some (j==i)) &&(PySem.W.kitOne K (.ref (ds.getD i 0)) (.type "ValueError")==some true)
structure Wd (K:PySem.W.Frag) (M:Addr) (ds:List Addr) (C:Addr) (word:Str):Prop where
 ex:∃i,i<19/\C=ds.getD i 0/\KI[i]? =some word/\KJ K M ds i=true
section
variable {K : PySem.W.Frag} {M : Addr} {ds : List Addr} {i : Nat}
end
structure WdK (K:PySem.W.Frag) (M:Addr) (ds:List Addr) (C:Addr) (word:Str):Prop where
 ex:∃i,i<16/\C=ds.getD i 0/\KI[i]? =some word/\KJ K M ds i=true
section
variable {X : Cx}
end
def GotL (H:Hp) (xs:List V) (Q:VK):Prop:=∀r H',Ab H H'->H r=none->H' r=some (.lst xs)->Q (.ref r) H'
theorem GotL.at {H:Hp}{xs:List V}{Q:VK} (q:GotL H xs Q):∀p,H p=none->Q (.ref p) (upd H p (.lst xs)):=λp hp=>q p _ (Ab.new hp) hp Ai
section
variable {X : Cx} {es : List Expr} {t : TA} {pos : Pos}
def P3 (t:TA):TE:=fun σ H Q=>t σ H λxs H1=>match Nat.ble xs.length 64 with | true=>Eg H1 xs Q | false=>False
def P4 (t:TA):TE:=fun σ H Q=>t σ H λxs H1=>match Nat.ble xs.length 64 with | true=>GotL H1 xs Q | false=>False
theorem C6 {x1} (h:PA X es t):PE X (.Tuple es x1 pos) (P3 t):=by
 intro pins s σ H Q I hq
 refine wpAny_Tuple_spliced (Am (h pos pins s σ H _ I hq) λus s1 ⟨xs,H1,I1,r,q⟩=>?_)
 dsimp only at q
 split at q
 ·rename_i z
  refine⟨by rw [<-r.length];exact few z,?_⟩
  have hf:H1 s1.heap.objs.size=none:=I1.hok.fresh (Nat.le_refl _)
  refine⟨.ref s1.heap.objs.size,upd H1 s1.heap.objs.size (.tup xs),I1.laid (t':=s1.toks) (λb u e=>Heap.get?_push_of_some _ e) (Nat.le_refl _) ?_,rfl,q _ _ (Ab.new hf) Ai⟩
  exact⟨few z,us,r,⟨_,Heap.get?_push_size _ rfl,rfl,_,rfl⟩⟩
 ·exact q.elim
theorem El (h:PA X es t):PE X (.List es pos) (P4 t):=by
 intro pins s σ H Q I hq
 refine wpAny_List_spliced (Am (h pos pins s σ H _ I hq) λus s1 ⟨xs,H1,I1,r,q⟩=>?_)
 dsimp only at q
 split at q
 ·rename_i z
  refine⟨by rw [<-r.length];exact few z,?_⟩
  have hf:H1 s1.heap.objs.size=none:=I1.hok.fresh (Nat.le_refl _)
  refine⟨.ref s1.heap.objs.size,upd H1 s1.heap.objs.size (.lst xs),I1.laid (t':=s1.toks) (λb u e=>Heap.get?_push_of_some _ e) (Nat.le_refl _) ?_,rfl,q.at _ hf⟩
  exact⟨few z,us,0,r,Heap.get?_push_size _ rfl⟩
 ·exact q.elim
def P5:R2:=λx y H Q=>∃l b xs zs,x= .ref l/\y= .ref b/\H l=some (.lst xs)/\H b=some (.lst zs)/\xs.length+zs.length<=sizeLine/\GotL H (xs++zs) Q
theorem KK:OpR X (binaryOp .Add) P5:=by
 intro pins s σ H x y v u Q I rx ry h
 obtain⟨l,b,xs,zs,e1,e2,h1,h2,hz,q⟩:=h
 exact N8 pins s σ H x y v u Q I rx ry ⟨l,b,xs,zs,e1,e2,h1,h2,hz,q.at⟩
end
end L2
end
section
namespace L2
open PySem PySem.Spec PyProof.Rows
section
variable {X : Cx}
end
end L2
namespace MF
open PySem PySem.Spec PyProof.Rows L2
def C7 (p:Int) (q:Int×Int):Int:=if q.2<p then q.1 *(q.2-p) else 0
def spared (r co:List Int) (p:Int):Int:=((r.zip co).map (C7 p)).sum
def Du (lo hi p b:Int):Int:=(p-b) *(if b<p then lo else hi)
def Bl (T:TM) (h:Nat) (p b:Int):Int:=p * T.ds.getD h 0+spared (T.cs.getD h []) T.co p+Du T.lo T.hi p b
def Dv (T:TM) (ns:List Int) (k:Nat):Int:=((List.range k).map λh=>Bl T h (ns.getD h 0) (ns.getD (h+1) 0)).sum
def CQ (T:TM) (ns:List Int):Int:=Dv T ns ns.length-ns.getD 0 0 * T.st
theorem P6 {T:TM}{ns:List Int}{k:Nat}:Dv T ns (k+1)=Dv T ns k+Bl T k (ns.getD k 0) (ns.getD (k+1) 0):=by
 unfold Dv;rw [List.range_succ,List.map_append,List.sum_append];simp
structure AL (T:TM):Prop where
 ok:T.ok
 c:∀r∈T.cs,r.length=T.co.length/\∀c∈r,0<=c/\c<=20
 o:T.co.length<=4
 o1:∀c∈T.co,1<=c/\c<=9
 d:∀x∈T.ds,0<=x/\x<=100
 l0:0<=T.lo
 h0:0<=T.hi
 s0:0<=T.st
 l4:T.lo<=100
 h4:T.hi<=100
 s4:T.st<=100
theorem getD_mem {α:Type}{l:List α}{i:Nat}{d:α} (h:i<l.length):l.getD i d∈l:=by
 rw [List.getD_eq_getElem?_getD,List.getElem?_eq_getElem h];exact List.getElem_mem h
def P7 (d:PyData):Bool:=match d with | .int i=>decide (0<=i) | _=>false
theorem C8 {P:PL}{S:SY} (ok:P.ok) {n:Nat} (so:S.ok n):AL (terms P S):=by
 have h0:=ok.lo0
 have h1:=ok.ls
 have h2:=ok.sh
 have h3:=ok.h4
 refine⟨Kt so,λr hr=>⟨by rw [(Ei ok r hr).2];show P.bs.length=(P.bs.map (·.2)).length;rw [List.length_map],λc hc=>by have:=(Ei ok r hr).1 c hc;omega⟩,by show(P.bs.map (·.2)).length<=4;rw [List.length_map];exact ok.b4,λc hc=>?_,λx hx=>?_,h0,?_,?_,?_,?_,?_⟩
 ·obtain⟨q,hq,rfl⟩:=List.mem_map.mp hc
  have:=ok.b q hq
  omega
 ·have:=Kr ok so x hx;omega
 ·show 0<=P.hi;omega
 ·show 0<=P.st;omega
 ·show P.lo<=100;omega
 ·show P.hi<=100;omega
 ·show P.st<=100;omega
end MF
end
section
namespace MF
open PySem PySem.Spec PyProof.Rows L2
structure P8 (K:PySem.W.Frag) (x qual:Str) (st:Stmt) (f:Addr) (fd:FuncData) (c:Addr):Prop where
 ex:∃(oc:Value) (od:Option Addr) (kV doc pm:Value) (an:Option Addr) (ct:Value) (osl:Array (Option Value)),
  fd=PySem.W.fnOf x qual (BU st) (BD st) (Aw st) .none kV doc pm an (.ref c) ct/\K.lookup f=some ⟨oc,od,.func fd,osl⟩/\PySem.W.codeIn K (.ref c) qual=true
end MF
end
section
namespace L2
open PySem PySem.Spec PyProof.Rows
variable {X : Cx} {σ : St} {H : Hp} {kvs : List (Ar × V)} {te : TE}
theorem P9:entryFor table "dict_itemiterator.__iter__"=some Builtin.«dict_keyiterator.__iter__»:=entryFor_alias (id':="dict_keyiterator.__iter__") (by kernel_rfl) rfl (by decide+kernel) (by kernel_rfl)
theorem Qa {P:Program}{w:World}{k:Ar}{v:Value} (h:(AR P w).is k v=true):Av (kV k) v:=by
 rw [MQ] at h
 rcases Cm h with⟨i,t,rfl,rfl⟩ | ⟨x,t,rfl,rfl⟩
 ·exact⟨t,rfl⟩
 ·exact⟨t,rfl⟩
theorem KV.get {κ:Type}:∀ {ks:List (κ×V)}{vs:List (κ×Value)}{i:Nat}{q:κ×V},KV ks vs->ks[i]? =some q->∃u,vs[i]? =some (q.1,u)/\Av q.2 u
 | _,_,_,_,.nil,e=>by simp at e
 | _,_,0,_,.cons (b:=b) r _,e=>by
  simp at e;subst e
  exact⟨b.2,by rw [r.1];rfl,r.2⟩
 | _,_,i+1,q,.cons _ t,e=>by
  obtain⟨u,h1,h2⟩:=KV.get (i:=i) (q:=q) t (by simpa using e)
  exact⟨u,by simpa using h1,h2⟩
theorem Ac.dictAt {pins:List (Addr×Obj)}{s:Shared}{d:Addr}{o:Obj}{es:Array DictEntry}{ep:Nat} (I:Ac X pins σ H s) (h:H d=some (.frz o (.dK kvs))) (ho:o.data= .dict es ep):
  ∃vs,KV kvs vs/\s.heap.DictAt (AR X.prog X.w) d vs ep:=by
 obtain⟨e,_,_,vs,kv,o',es',ep',e',c,dd,r⟩:=(show ObjOk X.prog X.w H s.heap d (.frz o (.dK kvs)) from I.hok d _ h)
 rw [e] at e';cases e'
 rw [ho] at dd;cases dd
 exact⟨vs,kv,o,es,e,c,ho,r⟩
def Em (d:Addr) (o:Obj) (kvs:List (Ar×V)):It:=
 ⟨λi H=>H d=some (.frz o (.dK kvs))/\i<kvs.length,λi H v H'=>∃T q,v= .ref T/\H T=none/\kvs[i]? =some q/\H'=upd H T (.tup [kV q.1,q.2]),λi H=>H d=some (.frz o (.dK kvs))/\kvs.length=i⟩
theorem Qb {P:Program}{w:World}{K:PySem.W.Frag}{es:List Expr}{k:Nat}{pos:Pos}{o:Obj}{kvs:List (Ar×V)}{es0:Array DictEntry}{ep:Nat} (d it:Addr) (ho:o.data= .dict es0 ep) (hdi:d≠it):
  CG P w K (.Tuple es k pos) (Em d o kvs) [it] it (λi h=>∃ok ov,IsItemIter h it d i kvs.length ep ok ov) where
 mem:=by simp
 obj:=λi h st b hb=>by
  obtain⟨ok,ov,he⟩:=st
  rw [List.mem_singleton.mp hb]
  exact⟨_,he,λv z=>by
   have z':Data.fields _=Data.cell v:=z
   cases z'⟩
 keep:=λi h h' st kk=>by obtain⟨ok,ov,he⟩:=st;exact⟨ok,ov,kk it (by simp) _ he⟩
 item:=by
  intro X hP hw hK hc i pins s σ H E I hf st hg
  subst hP hw
  obtain⟨ok,ov,he⟩:=st
  obtain⟨hd,hlt⟩:=hg
  obtain⟨vs,kv,hm⟩:=I.dictAt hd ho
  have hl:kvs.length=vs.length:=Paired.length kv
  have hq:kvs[i]? =some kvs[i]:=by simp [hlt]
  obtain⟨u,hu,ru⟩:=kv.get hq
  rw [hl] at he
  refine wpAny_pyNext_items_item he hm hu λkey h1 hkey hout htup hsz hk=>⟨_,rfl,wpAny_letOwnedTupleGo_items hout λh2 he2 hs2=>?_⟩
  have hiH:it<s.heap.objs.size:=Heap.lt_size he
  have kk:∀b ob,b ∉ [it]->s.heap.get? b=some ob->h2.get? b=some ob:=λb ob hb q=>hs2.extBut b ob (λz=>hb (by rw [z];simp)) (hk b ob (λz=>hb (by rw [z];simp)) q)
  have ht2:IsTup h2 s.heap.objs.size [key,u].toArray:=⟨_,(hs2.2 _ (Nat.ne_of_gt hiH)).trans htup,rfl,_,rfl⟩
  exact⟨.ref s.heap.objs.size,upd H s.heap.objs.size (.tup [kV kvs[i].1,kvs[i].2]),I.yielded (tk:=s.toks) (λb hb=>hf b hb) kk (Nat.le_refl _) ht2 (.cons (Qa hkey) (.cons ru .nil)) (by show 2<=sizeLine;decide),rfl,
   ⟨_, kvs[i], rfl, I.hok.fresh (Nat.le_refl _), hq, rfl⟩, ⟨key, u, by rw [hl]; exact he2⟩, λb hb => by
    rw [List.mem_singleton.mp hb,Ap (Nat.ne_of_lt hiH)];exact(hf it (by simp)).1⟩
 done:=by
  intro X hP hw hK hc i pins s σ H E I hf st hg
  subst hP hw
  obtain⟨ok,ov,he⟩:=st
  obtain⟨hd,hlt⟩:=hg
  obtain⟨vs,kv,hm⟩:=I.dictAt hd ho
  have hl:kvs.length=vs.length:=Paired.length kv
  rw [hl] at he
  refine wpAny_pyNext_items_end (I.ok.hd hc) he hm (by rw [List.getElem?_eq_none];omega) λh' he'=>⟨rfl,I.ended (tk:=s.toks) (λb hb=>hf b hb) λb ob hb q=>he' b ob (λz=>hb (by rw [z];simp)) q⟩
 self:=λA i s Q E st h=>by
  obtain⟨ok,ov,he⟩:=st
  have hT:s.TypeIs (.ref it) "dict_itemiterator" :=⟨_,he,rfl⟩
  refine wpAny_pyIter_slot hT F.slot_dict_itemiterator_iter (wpAny_call_entry F.slot_dict_itemiterator_iter hT P9 ?_ (F.args_dict_itemiterator_iter_1 _))
  show wpAny _ _ (ret (.ref it)) _ _ s
  exact wpAny_pure ⟨_,rfl,"dict_itemiterator",_,hT,F.slot_dict_itemiterator_next.lookup,h⟩
def Qc (te:TE):TI:=fun σ H R=>te σ H λx H1=>∃d o kvs,x= .ref d/\H1 d=some (.frz o (.dK kvs))/\R (Em d o kvs) H1
theorem Il {es:List Expr}{k:Nat}{pos' apos cpos:Pos}{e:Expr} (he:PE X e te) (hbase:attributeBase e "items" X.env (eval e X.env)=eval e X.env:=by rfl) (hline:(apos.endLine==cpos.line)=true:=by rfl):
  PI X (.Tuple es k pos') (.Call (.Attribute e "items" apos) [] [] cpos) (Qc te):=by
 intro pins s σ H R I h
 refine wpAny_Call_method0_late hbase hline (Am (he pins s σ H _ I h) λv s1 ⟨x,H1,I1,r1,d,o,kvs,ex,hd,q⟩=>?_)
 subst ex
 cases r1
 obtain⟨eo,_,hsys,vs0,kv0,hm0⟩:=(show ObjOk X.prog X.w H1 s1.heap d (.frz o (.dK kvs)) from I1.hok d _ hd)
 obtain⟨o',es0,ep,e',c,dd,r⟩:=id hm0
 have eoo:o'=o:=by rw [eo] at e';exact(Option.some.inj e').symm
 subst eoo
 refine⟨"dict","dict.items",F.plainAttrs_dict,F.slot_dict_items,F.type_dict_items,hm0.typeIs,hm0.mapOf.noDict,?_⟩
 refine method_meetsIn F.slot_dict_items F.entry_dict_items rfl (PySem.evalArgs_none ⟨rfl,hm0.typeIs,F.args_dict_items_1 _,_,meets_dict_items (AR X.prog X.w) d hsys,⟨_,hm0⟩,?_⟩)
 have hlt:=Heap.lt_size eo
 have hz:(s1.heap.push { cls:= .type "dict_items",data:= .fields #[.ref d]}).objs.size=s1.heap.objs.size+1:=Heap.size_push ..
 have hm1:s1.heap.DictAt (AR X.prog X.w) d vs0 ep:=⟨o',es0,eo,c,dd,r⟩
 refine wpAny_pyIter_items (knd:=AR X.prog X.w) (d:=d) (kvs:=vs0) (ep:=ep) ⟨_,Heap.get?_push_size _ rfl,rfl,rfl⟩ (hm1.push _) ?_
 have hl:kvs.length=vs0.length:=Paired.length kv0
 dsimp only
 have kk:∀b ob,s1.heap.get? b=some ob->((s1.heap.push { cls:= .type "dict_items",data:= .fields #[.ref d]}).push { cls:= .type "dict_itemiterator",data:= .fields #[.none,.bool false,.ref d,.int 0 0,.int vs0.length 0,.int ep 0,.none,.none]}).get? b=some ob:=λb ob q=>Heap.get?_push_of_some _ (Heap.get?_push_of_some _ q)
 have hit:((s1.heap.push { cls:= .type "dict_items",data:= .fields #[.ref d]}).push { cls:= .type "dict_itemiterator",data:= .fields #[.none,.bool false,.ref d,.int 0 0,.int vs0.length 0,.int ep 0,.none,.none]}).get? (s1.heap.objs.size+1)=some { cls:= .type "dict_itemiterator",data:= .fields #[.none,.bool false,.ref d,.int 0 0,.int vs0.length 0,.int ep 0,.none,.none]}:=by
  rw [<-hz];exact Heap.get?_push_size _ rfl
 rw [hz]
 generalize(s1.heap.push { cls:= .type "dict_items",data:= .fields #[.ref d]}).push { cls:= .type "dict_itemiterator",data:= .fields #[.none,.bool false,.ref d,.int 0 0,.int vs0.length 0,.int ep 0,.none,.none]}=h2 at kk hit
 refine⟨s1.heap.objs.size+1,[s1.heap.objs.size+1],_,_,H1,rfl,I1.kept (t':=s1.toks) kk,Qb (o:=o') (kvs:=kvs) d (s1.heap.objs.size+1) dd (Nat.ne_of_lt (Nat.lt_succ_of_lt hlt)),⟨.none,.none,by rw [hl];exact hit⟩,λb hb=>?_,q⟩
 rw [List.mem_singleton.mp hb];exact I1.fpOk (Nat.le_succ _) (I1.hok.fresh (Nat.le_succ _))
theorem KM {d:Addr}{o:Obj}{cap:List (Option Nat)}{g:TG}{tt:TT}{Q:List V->Hp->Prop} (Pv:Nat->List V->Hp->Prop) (hn:kvs.length<=100000) (h0:Pv 0 [] H) (hz:∀i zs H,Pv i zs H->zs.length<=i)
  (hl:∀i zs H,Pv i zs H->H d=some (.frz o (.dK kvs)))
  (hs:∀i q zs H T,kvs[i]? =some q->Pv i zs H->H T=none->g (.ref T) (AM cap σ) (upd H T (.tup [kV q.1,q.2])) fun σ2 H2=>Keep (AM cap σ) σ2/\tt σ2 H2 λb H3=>br b (te σ2 H3 λy H4=>Pv (i+1) (zs++[y]) H4) (Pv (i+1) zs H3))
  (hd:∀zs H,Pv kvs.length zs H->Q zs H):DS (Em d o kvs) cap g tt te σ Q H:=
 Ed kvs.length Pv hn h0 hz (λi zs H hi p=>⟨⟨hl i zs H p,hi⟩,λv H' ⟨T,q,e,n,hq,y⟩=>by
  subst e y
  exact hs i q zs H T hq p n⟩)
  λzs H p=>⟨⟨hl _ zs H p,rfl⟩,hd zs H p⟩
end L2
end
section
namespace L2
open PySem PySem.Spec PyProof.Rows
variable {v : V} {u : Value} {P : Program} {h : Heap} {a : Addr} {vs : List (Ar × Value)} {Y : Cx} {PB : List (Addr × Obj)} {σ : St} {H : Hp}
abbrev KL:=List (Ar×V)
def BQ (ks:KL) (k:Ar) (v:V):KL:=if ks.any (λq=>q.1=k) then ks.map (λq=>if q.1=k then(q.1,v) else q) else ks++[(k,v)]
theorem KV.anyK {k:Ar}:∀ {ks:KL}{vs:List (Ar×Value)},KV ks vs->ks.any (λq=>q.1=k)=vs.any (λq=>q.1=k)
 | _,_,.nil=>rfl
 | _,_,.cons r t=>by rw [List.any_cons,List.any_cons,KV.anyK t,r.1]
theorem KV.mapK {k:Ar} (h:Av v u):∀ {ks:KL}{vs:List (Ar×Value)},KV ks vs->KV (ks.map λq=>if q.1=k then(q.1,v) else q) (vs.map λq=>if q.1=k then(q.1,u) else q)
 | _,_,.nil=> .nil
 | _,_,.cons (a:=a) (b:=b) r t=>by
  rw [List.map_cons,List.map_cons]
  refine .cons ?_ (KV.mapK h t)
  rw [<-r.1]
  split
  ·exact⟨r.1 ▸ rfl,h⟩
  ·exact r
theorem KV.snoc {κ:Type}{q:κ×V}{p:κ×Value} (h:q.1=p.1/\Av q.2 p.2):∀ {ks:List (κ×V)}{vs:List (κ×Value)},KV ks vs->KV (ks++[q]) (vs++[p])
 | _,_,.nil=> .cons h .nil
 | _,_,.cons r t=> .cons r (KV.snoc h t)
theorem KV.put {k:Ar} (h:Av v u) {ks:KL}{vs:List (Ar×Value)} (r:KV ks vs):KV (BQ ks k v) (stored vs k u):=by
 unfold BQ stored
 rw [r.anyK]
 split
 ·exact KV.mapK h r
 ·exact KV.snoc ⟨rfl,h⟩ r
theorem KN (ks:KL) (k:Ar) (v:V):(BQ ks k v).length<=ks.length+1:=by
 unfold BQ
 split
 ·rw [List.length_map];omega
 ·rw [List.length_append];simp
theorem Qd {k:Ar} (P:Program) (w:World) (h:Av (kV k) u):(AR P w).is k u=true:=by
 cases k with
 | inl i=>obtain⟨t,rfl⟩:=h;exact Hm P w i t
 | inr x=>obtain⟨t,rfl⟩:=h;exact Jd P w x t
section
variable {prog : Program} {w : World} {A : Around} {R : Result -> Shared -> Prop} {s : Shared} {kx vx tg it : Expr} {ifs : List Expr} {sc : Scope} {ps : Pos} {itv : Value} {D : Addr} {env : Env}
theorem Qe (ht:∀v,letOwnedTupleGo tg itv v=pure ()) (I:Nat->Shared->Prop)
  (turn : ∀ n s, I n s -> wpAny (model prog w) A (pyNext itv) (λr s1 => match r with
   | none=>R (.ok .next) s1
   | some v => wpAny (model prog w) A (letOwnedTupleGo tg itv v) (λ_ s2 => wpAny (model prog w) A (assign tg env v) (λ_ s3 =>
     wpAny (model prog w) A (forIn ifs true λc r=>if r=true then do let ok<-isTrue c env (eval c env);pure (ForInStep.yield ok) else pure (ForInStep.yield r)) (λok s4=>
      if ok=true then wpAny (model prog w) A (eval kx env) (λkv s5=>wpAny (model prog w) A (eval vx env) (λvv s6=>wpAny (model prog w) A (dictSet D kv vv) (λ_ s7=>∃m,m<n/\I m s7) (λ_ _=>False) s6) (λ_ _=>False) s5) (λ_ _=>False) s4
      else ∃m,m<n/\I m s4) (λ_ _=>False) s3) (λ_ _=>False) s2) (λ_ _=>False) s1) (λ_ _=>False) s)
  (n:Nat) (h:I n s):codeAny (model prog w) A (.compLoop (.DictComp kx vx [⟨tg,it,ifs,0⟩] sc ps) 0 itv (.ref D) env) R s:=by
 refine codeAny_compLoop_testsD I (λm s0 hI=>wpAny_mono (turn m s0 hI) (λr s1 h1=>?_) λ_ _ z=>z.elim) n h ht
 cases r with
 | none=>exact h1
 | some v=>
  have both:=wpAny_bind h1
  rw [ht v,pure_bind] at both
  refine wpAny_mono both (λ_ s3 h3=>wpAny_mono h3 (λok s4 h4=>?_) λ_ _ z=>z.elim) λ_ _ z=>z.elim
  cases ok with
  | false=>exact h4
  | true=>exact wpAny_mono h4 (λkv s5 h5=>wpAny_mono h5 (λvv s6 h6=>wpAny_mono h6 (λ_ _ z=>z) λ_ _ z=>z.elim) λ_ _ z=>z.elim) λ_ _ z=>z.elim
end
structure GrownD (Y:Cx) (a:Addr) (PB:List (Addr×Obj)) (σ:St) (zs:KL) (H:Hp) (s:Shared):Prop where
 inv:Ac Y PB σ H s
 no:H a=none
 len:zs.length<=sizeLine
 at':∃o vs,s.heap.get? a=some o/\KV zs vs/\s.heap.DictOf (AR Y.prog Y.w) a vs
def DictO (P:Program) (w:World) (o:Obj) (vs:List (Ar×Value)):Prop:=∃es ep,o.ExactDict/\o.data= .dict es ep/\KeysOf (AR P w) es/\Pairs (AR P w) es.toList vs/\(vs.map (·.1)).Nodup
theorem DictO.of {w:World}{o:Obj} (d:h.DictOf (AR P w) a vs) (e:h.get? a=some o):DictO P w o vs:=by
 obtain⟨o',es,ep,e',r⟩:=d
 rw [e] at e';cases e'
 exact⟨es,ep,r⟩
theorem DictO.to {w:World}{o:Obj} (d:DictO P w o vs) (e:h.get? a=some o):h.DictOf (AR P w) a vs:=by
 obtain⟨es,ep,r⟩:=d
 exact⟨o,es,ep,e,r⟩
theorem GrownD.pin {zs:KL}{s:Shared}{o:Obj} (A:CZ Y a) (g:GrownD Y a PB σ zs H s) (e:s.heap.get? a=some o) (d:DictO Y.prog Y.w o vs):Ac Y ((a,o)::PB) σ H s:=
 g.inv.pins_of λp hp=>by
  rcases List.mem_cons.mp hp with rfl | hp
  ·exact⟨e,g.no,A.loc,A.fs,λv z=>by
    obtain⟨es,ep,_,dd,_⟩:=d
    have z':o.data= .cell v:=z
    rw [dd] at z';cases z'⟩
  ·exact g.inv.pin p (List.mem_append_right _ hp)
theorem Ac.grownD {zs:KL}{s:Shared}{o:Obj} (I:Ac Y ((a,o)::PB) σ H s) (hz:zs.length<=sizeLine) (v:KV zs vs) (d:DictO Y.prog Y.w o vs):GrownD Y a PB σ zs H s:=by
 have q:=I.pin (a,o) (List.mem_append_right _ List.mem_cons_self)
 exact⟨I.pins_of λp hp=>I.pin p (List.mem_append_right _ (List.mem_cons_of_mem _ hp)),q.2.1,hz,o,vs,q.1,v,d.to q.1⟩
def KO (wi:TI) (cap:List (Option Nat)) (g:TG) (tt:TT) (tk te:TE):St->Hp->(KL->Hp->Prop)->Prop:=fun σ H Q=>wi σ H λJ H1=>
 ∃W:Nat->Nat->KL->Hp->Prop,(∃m,W 0 m [] H1)/\∀i m ys H,W i m ys H->
  (J.stop i H/\Q ys H)\/
  (J.go i H /\ ys.length < sizeLine /\ ∃ N : KL -> Hp -> Prop, (∀ ys' H', N ys' H' -> ∃ m', m' < m /\ W (i + 1) m' ys' H') /\ ∀ x H', J.yld i H x H' -> g x (AM cap σ) H' fun σ2 H2 => Keep (AM cap σ) σ2 /\ tt σ2 H2 λb H3 =>
   br b (tk σ2 H3 λk H4=>te σ2 H4 λy H5=>∃kk,k=kV kk/\N (BQ ys kk y) H5) (N ys H3))
theorem Qf {kx vx tg it:Expr}{ifs:List Expr}{sc:Scope}{ps:Pos}{m0:Nat}{Y:Cx}{a jt:Addr}{PB:List (Addr×Obj)}{g:TG}{tt:TT}{tk te:TE}{fp:List Addr}{tn:Nat->Heap->Prop}{J:It}{W:Nat->Nat->KL->Hp->Prop}{σ:St}{ys:KL}{H:Hp}{s:Shared}{N:KL->Hp->Prop}{R:Result->Shared->Prop}
  (A:CZ Y a) (hnm:∀itv v,letOwnedTupleGo tg itv v=pure ()) (hPB:∀p∈PB,p.1≠a) (hx:Y.xe=λ_ _=>False) (hg:PG Y tg g) (htt:BN Y ifs tt) (hk:PE Y kx tk) (he:PE Y vx te)
  (T:CG Y.prog Y.w Y.K tg J fp jt tn) (na:∀b∈fp,b≠a) (fpY:∀ {o:Obj}{H':Hp},(∀b∈fp,H' b=none)->∀b∈fp,Ba Y ((a,o)::PB) H' b) (st:tn 0 s.heap) (gr:GrownD Y a PB σ ys H s) (hn:∀b∈fp,H b=none) (w0:W 0 m0 ys H)
  (turn:∀j m zs H,W j m zs H->(J.stop j H/\N zs H)\/(J.go j H/\zs.length<sizeLine/\(∃N2:KL->Hp->Prop,(∀zs' H',N2 zs' H'->∃m',m'<m/\W (j+1) m' zs' H')/\∀x H',J.yld j H x H'->g x σ H' fun σ3 H2=>Keep σ σ3/\tt σ3 H2 λb H3=>br b (tk σ3 H3 λk H4=>te σ3 H4 λy H5=>∃kk,k=kV kk/\N2 (BQ zs kk y) H5) (N2 zs H3))))
  (back:∀zs H' s',GrownD Y a PB σ zs H' s'->N zs H'->R (.ok .next) s'):codeAny (model Y.prog Y.w) Y.A (.compLoop (.DictComp kx vx [⟨tg,it,ifs,0⟩] sc ps) 0 (.ref jt) (.ref a) Y.env) R s:=by
 refine Qe (hnm _) (λn' s'=>∃(j:Nat) (zs:KL) (H':Hp),GrownD Y a PB σ zs H' s'/\tn j s'.heap/\(∀b∈fp,H' b=none)/\W j n' zs H') ?_ m0 ⟨0,ys,H,gr,st,hn,w0⟩
 rintro n' s12 ⟨j,zs,H12,g12,st12,fr12,w12⟩
 obtain⟨o12,vs12,e12,v12,d12⟩:=g12.at'
 have do12:=DictO.of d12 e12
 have I12:=g12.pin A e12 do12
 rcases turn j n' zs H12 w12 with⟨stop,q⟩ | ⟨go2,hz0⟩
 ·refine Am (T.done Y rfl rfl rfl A.calm j _ s12 _ H12 _ I12 (fpY fr12) st12 stop) λr s13 ⟨hr,I13⟩=>?_
  subst hr
  exact back zs H12 s13 (Ac.grownD I13 g12.len v12 do12) q
 ·obtain⟨hC,N2,hN2,step2⟩:=hz0
  refine Am (T.item Y rfl rfl rfl A.calm j _ s12 _ H12 _ I12 (fpY fr12) st12 go2) λr s13 ⟨u2,hr,h13⟩=>?_
  subst hr
  refine Am h13 λ_ s14 ⟨x2,H14,I14,r14,y14,st14,fr14⟩=>?_
  have I14':=I14.pinned (fpY fr14) (T.obj _ _ st14)
  have hgY:=hg _ s14 _ H14 x2 u2 _ I14' r14 (step2 x2 H14 y14)
  rw [hx] at hgY
  refine Am hgY λ_ s15 ⟨σ15,H15,I15,kp2,q15⟩=>?_
  have htY:=htt _ s15 σ15 H15 _ I15 q15
  rw [hx] at htY
  refine Am htY λb2 s16 ⟨H16,I16,q16⟩=>?_
  have pn:∀p∈PB++Cr fp s14.heap,p.1≠a:=λp hp=>by
   rcases List.mem_append.mp hp with hp | hp
   ·exact hPB p hp
   ·exact na p.1 (Ht hp).1
  have back2:∀ {σ':St}{zs':KL}{H':Hp}{s':Shared},Keep σ σ'->GrownD Y a (PB++Cr fp s14.heap) σ' zs' H' s'->N2 zs' H'->∃m,m<n'/\∃(j:Nat) (zs:KL) (H':Hp),GrownD Y a PB σ zs H' s'/\tn j s'.heap/\(∀b∈fp,H' b=none)/\W j m zs H':=λ{σ' zs' H' s'} kp G n2=>by
   obtain⟨m',hm,w16⟩:=hN2 _ _ n2
   refine⟨m',hm,j+1,zs',H',⟨(G.inv.pins_of λp hp=>G.inv.pin p (List.mem_append_right _ (List.mem_append_left _ hp))).weak (by rw [kp.len]) λi v e=>kp.get e,G.no,G.len,G.at'⟩,T.keep _ _ _ st14 λb hb o e=>(G.inv.pin (b,o) (List.mem_append_right _ (List.mem_append_right _ (D8 hb e)))).1,λb hb=>?_,w16⟩
   obtain⟨o,e,d⟩:=T.obj _ _ st14 b hb
   exact(G.inv.pin (b,o) (List.mem_append_right _ (List.mem_append_right _ (D8 hb e)))).2.1
  have g16:GrownD Y a (PB++Cr fp s14.heap) σ15 zs H16 s16:=Ac.grownD I16 g12.len v12 do12
  cases b2 with
  | false=>
   rw [if_neg Bool.false_ne_true]
   exact back2 kp2 g16 (q16.2 rfl)
  | true=>
   rw [if_pos rfl]
   have hkY:=hk _ s16 σ15 H16 _ I16 (q16.1 rfl)
   rw [hx] at hkY
   refine Am hkY λkv s17 ⟨kval,H17,I17,r17,q17⟩=>?_
   have heY:=he _ s17 σ15 H17 _ I17 q17
   rw [hx] at heY
   refine Am heY λyv s18 ⟨y,H18,I18,r18,kk,ek,n18⟩=>?_
   subst ek
   have G18:=Ac.grownD I18 g12.len v12 do12
   have e18:=(I18.pin (a,o12) (List.mem_append_right _ List.mem_cons_self)).1
   refine wpAny_dictSet_pairs (hsz:=by rw [<-Paired.length v12];exact g12.len) (Qd Y.prog Y.w r17) (do12.to e18) λh6 d6 hs6=>?_
   have I19:Ac Y (PB++Cr fp s14.heap) σ15 H18 { s18 with heap:=h6,toks:=s18.toks+1}:=
    G18.inv.turned (t':=s18.toks+1) (it:=a) (λb o hb e=>hs6.extBut b o hb e) G18.no A.loc A.sz A.cell λp hp z=>by
     rw [A.pn,List.nil_append] at hp
     exact pn p hp z
   obtain⟨o6,es6,ep6,e6,r6⟩:=id d6
   exact back2 kp2 ⟨I19,G18.no,by have:=KN zs kk y;omega,o6,_,e6,KV.put r18 v12,d6⟩ n18
theorem Qg {X:Cx}{tg iter kx vx:Expr}{ifs:List Expr}{scope:Scope}{pos pos':Pos}{wi:TI}{g:TG}{tt:TT}{tk te:TE}{N':List Str}{cap:List (Option Nat)}{use:Option (Value->Sem Unit)}{Q':Value->Shared->Prop}
  {pins:List (Addr×Obj)}{s:Shared}{σ:St}{H:Hp}{Q:KL->Hp->Prop}
  (hc:X.calm=true) (hi:PI X tg iter wi) (B:AS X.env.scope X.N scope N' cap) (hg:∀s H ex C,PG (AJ X N' scope s H ex C) tg g) (ht:∀s H ex C,BN (AJ X N' scope s H ex C) ifs tt)
  (hk:∀s H ex C,PE (AJ X N' scope s H ex C) kx tk) (he:∀s H ex C,PE (AJ X N' scope s H ex C) vx te)
  (hnm:∀itv v,letOwnedTupleGo tg itv v=pure ()) (hs:∀x,foldedSetIterable iter X.env x=pure x) (I:Ac X pins σ H s)
  (h:KO wi cap g tt tk te σ H Q)
  (fin:∀(acc C:Addr) (H:Hp) (ys:KL) (o:Obj) (s':Shared),H acc=none->Ac X pins σ (upd H acc (.frz o (.dK ys))) s'->FE X pins C (upd H acc (.frz o (.dK ys))) s'->Q ys H->compPost (model X.prog X.w) X.A X.xe use Q' (.ref acc) C (.ok .next) s'):
  wpAny (model X.prog X.w) X.A (comprehension (.DictComp kx vx [⟨tg,iter,ifs,0⟩] scope pos) scope X.env pos' newDict false (eval iter X.env) use) Q' X.xe s:=by
 have hclos:closureFor scope X.env=pure (Bf X.env.cells scope.names []):=JQ λy hy hf=>I.ok.has y.1 (B.free y hy hf)
 refine wpAny_comprehension_free (cl:=Bf X.env.cells scope.names []) rfl hs hclos B.kind B.names (Am (hi pins s σ H _ I h) λv s1 h1=>Am h1 λitv s2 h2=>?_)
 obtain⟨it,fp,tn,J,H2,e,I2,T,st2,f2,W,⟨m0,w0⟩,turn⟩:=h2
 subst e
 refine wpAny_newObj_type (JR ?_)
 dsimp only
 generalize hH3:s2.heap.push { cls:= .type "dict",dict:=none,data:= .dict #[]}=h3
 have hsz3:h3.objs.size=s2.heap.objs.size+1:=by rw [<-hH3];exact Heap.size_push ..
 have hk3:∀b o,s2.heap.get? b=some o->h3.get? b=some o:=λb o e=>by rw [<-hH3];exact Heap.get?_push_of_some _ e
 have hacc3:h3.get? s2.heap.objs.size=some { cls:= .type "dict",data:= .dict #[]}:=by rw [<-hH3];exact Heap.get?_push_size _ rfl
 have hlt:∀b∈fp,b<s2.heap.objs.size:=λb hb=>let ⟨o,e,_⟩:=T.obj _ _ st2 b hb;Heap.lt_size e
 have I4:=JT I2 B f2 hlt hk3 (by rw [hsz3];exact Nat.le_succ _)
 have acc4:(pushCells (h3.push { cls:= .type "dict",data:= .dict #[]}) scope.names).get? s2.heap.objs.size=some { cls:= .type "dict",data:= .dict #[]}:=pushCells_keeps _ _ _ _ (Heap.get?_push_of_some _ hacc3)
 have st4:tn 0 (pushCells (h3.push { cls:= .type "dict",data:= .dict #[]}) scope.names):=T.keep _ _ _ st2 λb _ o e=>pushCells_keeps _ _ _ _ (Heap.get?_push_of_some _ (hk3 b o e))
 have dict4:(pushCells (h3.push { cls:= .type "dict",data:= .dict #[]}) scope.names).DictOf (AR X.prog X.w) s2.heap.objs.size []:=Heap.DictOf.at (hH3 ▸ Heap.DictOf.new s2.heap) λo e=>pushCells_keeps _ _ _ _ (Heap.get?_push_of_some _ e)
 have haC:s2.heap.objs.size≠h3.objs.size:=by rw [hsz3];exact Nat.ne_of_lt (Nat.lt_succ_self _)
 have haN:s2.heap.objs.size ∉ Br X.stack:=λz=>by
  rcases List.mem_cons.mp (I2.stkSub _ z) with q | q
  ·exact absurd I2.lt (by rw [<-q];exact Nat.lt_irrefl _)
  ·exact I2.nofs (Nat.le_refl _) q
 have okY:=I4.ok
 have fpY:∀ {pins':List (Addr×Obj)}{H':Hp},(∀b∈fp,H' b=none)->(∀p∈pins',p.1=s2.heap.objs.size)->∀b∈fp,Ba (AJ X N' scope s2 H2 fp h3.objs.size) pins' H' b:=λ{pins' H'} hn hp b hb=>
  ⟨hn b hb, (okY.exf b hb).1, okY.exfs b hb, .inl hb, (okY.exf b hb).2, λp z e => by
   have z':p∈pins':=z
   have:=hlt b hb
   rw [<-e,hp p z'] at this
   exact Nat.lt_irrefl _ this⟩
 have cellNe:∀x c,(AJ X N' scope s2 H2 fp h3.objs.size).env.cells.lookup x=some c->c≠s2.heap.objs.size:=λx c ec z=>by
  rcases Ec scope.names (h3.objs.size+1) _ ec with q' | q'
  ·rw [z,hsz3] at q'
   exact absurd q' (by omega)
  ·have ec':X.env.cells.lookup x=some c:=(DQ _ _ q').elim id λz=>nomatch z
   obtain⟨_,q''⟩:=I2.cell x c ec'
   have:=q''.lt
   rw [z] at this
   exact Nat.lt_irrefl _ this
 have loop:∀s4:Shared,s4= { s2 with heap:=pushCells (h3.push { cls:= .type "dict",data:= .dict #[]}) scope.names}->
   codeAny (model X.prog X.w) X.A (.compLoop (.DictComp kx vx [⟨tg,iter,ifs,0⟩] scope pos) 0 (.ref it) (.ref s2.heap.objs.size) (HN scope X.env h3.objs.size)) (compPost (model X.prog X.w) X.A X.xe use Q' (.ref s2.heap.objs.size) h3.objs.size) s4:=by
  rintro s4 rfl
  have A0:CZ (AJ X N' scope s2 H2 fp h3.objs.size) s2.heap.objs.size:=⟨haC,haN,.inr (Nat.le_refl _),cellNe,rfl,hc⟩
  refine Qf (Y:=AJ X N' scope s2 H2 fp h3.objs.size) (PB:=[]) (W:=W) A0 hnm (λp hp=>absurd hp (by simp)) rfl (hg _ _ _ _) (ht _ _ _ _) (hk _ _ _ _) (he _ _ _ _) T (λb hb z=>absurd (hlt b hb) (by rw [z];exact Nat.lt_irrefl _))
   (λ{o H'} hn b hb=>fpY hn (λp hp=>by rw [List.mem_singleton.mp hp]) b hb) st4 ⟨I4,I2.hok.fresh (Nat.le_refl _),Nat.zero_le _,_,[],acc4,.nil,dict4⟩ (λb hb=>(f2 b hb).1) w0 turn λys H5 s6 G q=>?_
  obtain⟨o6,vs6,e6,v5,d6⟩:=G.at'
  have bigA:(s2.heap.objs.size==sysModules)=false:=beq_eq_false_iff_ne.mpr (Ne.symm (Nat.ne_of_lt I2.big))
  have fa5:=G.no
  have z5:=G.len
  have I6:=G.inv
  have nacc:∀b u,H5 b=some u->b≠s2.heap.objs.size:=λb u q z=>by rw [z,fa5] at q;cases q
  have un:Un (Br X.stack) fp H2 (upd H5 s2.heap.objs.size (.frz o6 (.dK ys))) s2.heap s6.heap:=by
   have u:=I6.base
   refine⟨u.keep,u.slot,λb o q n hx=>?_,u.there,λb xs q=>?_,λb o xs q=>?_,λb ps q=>?_⟩
   ·rw [Ap (Nat.ne_of_lt (Heap.lt_size q))]
    exact u.free b o q n hx
   ·have z:=u.tups b xs q
    rw [Ap (nacc b _ z)];exact z
   ·have z:=u.frzs b o xs q
    rw [Ap (nacc b _ z)];exact z
   ·obtain⟨more,z⟩:=u.tbls b ps q
    exact⟨more,by rw [Ap (nacc b _ z)];exact z⟩
  have hok:HOk X.prog X.w (upd H5 s2.heap.objs.size (.frz o6 (.dK ys))) s6.heap:=λb u q=>by
   by_cases hb:b=s2.heap.objs.size
   ·subst hb
    rw [Ai] at q;cases q
    exact⟨e6,z5,bigA,vs6,v5,d6⟩
   ·rw [Ap hb] at q
    have o6:ObjOk X.prog X.w H5 s6.heap b u:=I6.hok b u q
    exact o6.stay (λ_ _ _ e=>e) (λc z=>by rw [Ap (nacc c _ z)];exact z) λc xs z=>by rw [Ap (nacc c _ z)];exact z
  have IX:Ac X pins σ (upd H5 s2.heap.objs.size (.frz o6 (.dK ys))) s6:=I2.call' (show s6.os=s2.os from I6.os) un hok I6.bare λb hb=>let f:=f2 b hb;⟨f.2.2.2.1,f.2.1,f.2.2.2.2.1,f.2.2.2.2.2⟩
  have hCs:s2.heap.objs.size<=h3.objs.size:=by rw [hsz3];exact Nat.le_succ _
  refine fin _ _ H5 ys o6 s6 fa5 IX ⟨let ⟨m,hn,_⟩:=I6.loc;⟨m,hn⟩,?_,?_,Nat.le_trans I2.sz hCs,λx c ec z=>?_,λp hp z=>?_⟩ q
  ·rw [Ap (Ne.symm haC)];exact I6.free
  ·exact Nat.ne_of_gt (Nat.lt_of_lt_of_le I2.lt hCs)
  ·obtain⟨_,q⟩:=I2.cell x c ec
   have:=q.lt
   rw [z] at this
   exact absurd (Nat.lt_of_lt_of_le this hCs) (Nat.lt_irrefl _)
  ·have:=Heap.lt_size (I2.pin p hp).1
   rw [z] at this
   exact absurd (Nat.lt_of_lt_of_le this hCs) (Nat.lt_irrefl _)
 exact codeAny_compStart_dict (loop _ rfl) (T.self _ 0 _ _ _ st4 (loop _ rfl))
def Qh (wi:TI) (cap:List (Option Nat)) (g:TG) (tt:TT) (tk te:TE):TE:=fun σ H Q=>KO wi cap g tt tk te σ H λys H'=>∀p o,H' p=none->Q (.ref p) (upd H' p (.frz o (.dK ys)))
theorem Qi {X:Cx}{tg iter kx vx:Expr}{ifs:List Expr}{scope:Scope}{pos:Pos}{wi:TI}{g:TG}{tt:TT}{tk te:TE} (N':List Str) (cap:List (Option Nat))
  (hc:X.calm=true) (hi:PI X tg iter wi) (B:AS X.env.scope X.N scope N' cap) (hg:∀s H ex C,PG (AJ X N' scope s H ex C) tg g) (ht:∀s H ex C,BN (AJ X N' scope s H ex C) ifs tt) (hk:∀s H ex C,PE (AJ X N' scope s H ex C) kx tk) (he:∀s H ex C,PE (AJ X N' scope s H ex C) vx te)
  (hnm:∀itv v,letOwnedTupleGo tg itv v=pure ():=by intro _ _;rfl) (hs:∀x,foldedSetIterable iter X.env x=pure x:=by intro _;rfl):PE X (.DictComp kx vx [⟨tg,iter,ifs,0⟩] scope pos) (Qh wi cap g tt tk te):=by
 intro pins s σ H Q I h
 rw [arm_eval_DictComp]
 refine Qg (use:=none) hc hi B hg ht hk he hnm hs I h λacc C H ys o s' hn I' L q=>?_
 obtain⟨m,hm⟩:=L.ns
 refine⟨m,hm,λh' hsb=>⟨.ref acc,_,I'.turned (t':=s'.toks) (it:=C) (λb o hb e=>hsb.extBut b o hb e) L.free L.loc (.inr L.sz) L.cell L.pin,rfl,q acc o hn⟩⟩
end L2
end
section
namespace L2
open PySem PySem.Spec PyProof.Rows
variable {t u v : Tok} {Q : KL -> Hp -> Prop} {a : Addr} {σ : St} {H : Hp} {te : TE} {cap : List (Option Nat)} {tt : TT}
section
variable {prog : Program} {w : World} {A : Around} {E : Value -> Shared -> Prop} {s : Shared}
theorem Qj:isSubtype (.type "range_iterator") (.type "reversed")=pure false:=by rw [isSubtype_type];kernel_rfl
abbrev C9 (n:Int):Obj:= { cls:= .type "range_iterator",data:= .fields #[rawInt (n-1),rawInt n,rawInt (-1)]}
theorem EW {z:Int} (h1: -5000<=z) (h2:z<=5000):Builtin.Range.rangeFitsLong z=true:=by
 unfold Builtin.Range.rangeFitsLong
 simp only [Bool.and_eq_true,decide_eq_true_eq]
 omega
theorem Qk (r:Addr) (n:Int) (t u v:Tok) (h0:0<=n) (h1:n<=1000):
  Meets (Builtin.«range.__reversed__» ⟨[.ref r],[]⟩) (λ_ R s=>s.heap.get? r=some { cls:= .type "range",dict:=none,data:= .fields #[.int 0 t,.int n u,.int 1 v],slots:= #[]}/\R (.ok (.ret (Value.ref s.heap.objs.size))) { s with heap:=s.heap.push (C9 n),toks:=s.toks}):=
 .of_wp λprog w A R s h=>by
  obtain⟨hp,g,d,tk,os⟩:=s;obtain⟨hl,h⟩:=h
  have hn:Builtin.Range.rangeSize 0 n 1=n:=by rw [rangeSize_one];split<;>omega
  have hsm:(Builtin.Range.rangeFitsLong 0 && Builtin.Range.rangeFitsLong n && Builtin.Range.rangeFitsLong 1 && Builtin.Range.rangeFitsLong (-1) && Builtin.Range.rangeFitsLong (0-1) && Builtin.Range.rangeFitsLong (Builtin.Range.rangeSize 0 n 1))=true:=by
   rw [hn,EW (by omega) (by omega),EW (by omega) (by omega),EW (by omega) (by omega),EW (by omega) (by omega),EW (by omega) (by omega)];rfl
  wp_walk
  rw [hsm,hn]
  have e:(0:Int)+(n-1) * 1=n-1:=by omega
  rw [e]
  simp only [Bool.not_true,Bool.false_eq_true,if_false,if_true]
  wp_walk
  exact⟨_,rfl,h⟩
theorem Ql {l:Addr}{n:Int}{W:Value->Shared->Prop} (hl:IsRange s.heap l 0 n 1 t u v) (h0:0<=n) (h1:n<=1000)
  (h:W (.ref s.heap.objs.size) { s with heap:=s.heap.push (C9 n)}):codeAny (model prog w) A (.call (.builtin "reversed.__new__") ⟨[.type "reversed",.ref l],[]⟩) (wants W E) s:=by
 have ty:s.TypeIs (.ref l) "range" :=⟨_,hl,rfl⟩
 refine codeAny_call_builtin F.plain_reversed_new F.entry_reversed_new (wpAny_of_eq (F.newCall_reversed_1 (.ref l)) ?_)
 have cls:=newClass_reversed (.ref l)
 have AQ:=F.slot_range_reversed.lookup
 have bound:=F.slot_range_reversed.bind (.ref l)
 unfold Builtin.«reversed.__new__»
 wp_walk using wpAny_of_eq cls,wpAny_specialOf ty AQ,wpAny_of_eq bound
 refine codeAny_mono (codeAny_call_builtin (R:=λr s'=>r= .ok (.ret (.ref s.heap.objs.size))/\s'= { s with heap:=s.heap.push (C9 n)}) F.slot_range_reversed.plain F.entry_range_reversed (F.slot_range_reversed.check _ _ _ _ _ _ _ _ ty (F.args_range_reversed_1 _) (Qk l n t u v h0 h1 prog w A.in1 (λr s'=>r= .ok (.ret (.ref s.heap.objs.size))/\s'= { s with heap:=s.heap.push (C9 n)}) s ⟨hl,rfl,rfl⟩))) λr s' hr=>?_
 obtain⟨rfl,rfl⟩:=hr
 exact wpAny_pure h
theorem Qm {l:Addr}{n:Int}{Q:Value->Shared->Prop} (hl:IsRange s.heap l 0 n 1 t u v) (h0:0<=n) (h1:n<=1000)
  (h:Q (.ref s.heap.objs.size) { s with heap:=s.heap.push (C9 n)}):wpAny (model prog w) A (call (.type "reversed") [.ref l]) Q E s:=by
 refine callType_other (U:="range_iterator") (Q₁:=λobj s₁=>obj= .ref s.heap.objs.size/\s₁= { s with heap:=s.heap.push (C9 n)}) (by decide+kernel) F.create_reversed ⟨_,_,F.mro_reversed⟩ F.made_reversed Qj (F.typeCall_reversed_1 _) (Ql hl h0 h1 ⟨rfl,rfl⟩) ?_
 rintro obj s₁ ⟨rfl,rfl⟩
 exact⟨⟨_,Heap.get?_push_size _ rfl,rfl⟩,h⟩
end
section
variable {X : Cx} {tg : Expr}
def Qn (ta:TA):TI:=fun σ H R=>ta σ H λvs H1=>∃n:Int,vs=[.int n]/\0<=n/\n<=1000/\R (ES (n-1) (-1) n.toNat) H1
theorem Qo {a:Expr}{ta:TA}{p pos p2 pos2:Pos} (hg0:Gl X "reversed") (hm0:X.mg "reversed"=none) (hg:Gl X "range") (hm:X.mg "range"=none) (ha:PA X [a] ta)
  (hs0:starEach [.Call (.Name "range" p2) [a] [] pos2] X.env=[(false,eval (.Call (.Name "range" p2) [a] [] pos2) X.env)]:=by rfl) (hs:starEach [a] X.env=[(false,eval a X.env)]:=by rfl):
  PI X tg (.Call (.Name "reversed" p) [.Call (.Name "range" p2) [a] [] pos2] [] pos) (Qn ta):=by
 intro pins s σ H R I h
 refine Call_ (B1 I hg0 hm0 boot_reversed (PyProof.Rows.callWith_type1 (by
  rw [hs0]
  refine Calls.spliced_cons (Call_ (B1 I hg hm boot_range (PyProof.Rows.callWith_type1 (Am (ha pos2 pins s σ H _ I h) λus s1 ⟨vs,H1,I1,r1,q1⟩=>?_) hs rfl)))
  obtain⟨n,e,h0,hn,q⟩:=q1
  subst e
  cases r1 with
  | cons r rr=>
   cases rr
   obtain⟨t,rfl⟩:=r
   refine call_range_1 (Calls.spliced_nil ?_)
   refine Qm (IsRange.new ..) h0 hn ?_
   dsimp only
   have hz1:(s1.heap.push { cls:= .type "range",data:= .fields #[.int 0 s1.toks,.int n t,.int 1 (s1.toks+1)]}).objs.size=s1.heap.objs.size+1:=Heap.size_push ..
   have kk:∀b ob,s1.heap.get? b=some ob->((s1.heap.push { cls:= .type "range",data:= .fields #[.int 0 s1.toks,.int n t,.int 1 (s1.toks+1)]}).push (C9 n)).get? b=some ob:=λb ob q=>Heap.get?_push_of_some _ (Heap.get?_push_of_some _ q)
   have hit:IsRangeIter ((s1.heap.push { cls:= .type "range",data:= .fields #[.int 0 s1.toks,.int n t,.int 1 (s1.toks+1)]}).push (C9 n)) (s1.heap.objs.size+1) (n-1) n (-1):=by
    rw [<-hz1];exact Heap.get?_push_size _ rfl
   rw [hz1]
   generalize(s1.heap.push { cls:= .type "range",data:= .fields #[.int 0 s1.toks,.int n t,.int 1 (s1.toks+1)]}).push (C9 n)=h2 at kk hit
   refine wpAny_pyIter_rangeiter hit ⟨s1.heap.objs.size+1,[s1.heap.objs.size+1],_,_,H1,rfl,I1.kept (t':=_) kk,Pa _ (n-1) (-1) n.toNat,?_,λb hb=>?_,q⟩
   ·have e1:(n-1)+((0:Nat):Int) *(-1)=n-1:=by omega
    have e2:((n.toNat:Nat):Int)-((0:Nat):Int)=n:=by omega
    rw [e1,e2];exact hit
   ·rw [List.mem_singleton.mp hb];exact I1.fpOk (Nat.le_succ _) (I1.hok.fresh (Nat.le_succ _))) hs0 rfl))
def Qp (i:Int) (te:TE):TE:=fun σ H Q=>te σ H λy H1=>∀d o,H1 d=none->Q (.ref d) (upd H1 d (.frz o (.dK [(.inl i,y)])))
theorem Ac.trackN {pins:List (Addr×Obj)}{s:Shared}{h':Heap}{tk:Nat}{u:HO} (I:Ac X pins σ H s) (hf:Ba X pins H a)
  (k:∀b o,b≠a->s.heap.get? b=some o->h'.get? b=some o) (ha:∃o,h'.get? a=some o) (ok:ObjOk X.prog X.w (upd H a u) h' a u):Ac X pins σ (upd H a u) { s with heap:=h',toks:=tk}:=by
 have hfr:H a=none:=hf.1
 have nT:∀b u,H b=some u->b≠a:=λb u e=>A2 e hfr
 refine I.step (g':=s.gens) (d':=s.drawn) (ch:=[a]) (λb hb=>by rw [List.mem_singleton.mp hb];exact⟨hf.2.2.2.1,hf.2.1,hf.2.2.2.2.1,hf.2.2.2.2.2⟩) (λb o _ _ hc e _=>k b o (λz=>hc (by rw [z];simp)) e) (λb o _ _ hc e _=>⟨o.slots,k b o (λz=>hc (by rw [z];simp)) e⟩)
  (λb o hc e n=>by rw [Ap (λz=>hc (by rw [z];simp))];exact n) (λb o hc e=>⟨o,k b o (λz=>hc (by rw [z];simp)) e⟩) (λb xs e=>by rw [Ap (nT b _ e)];exact e) (λb o xs e=>by rw [Ap (nT b _ e)];exact e) (λb ps e=>⟨#[],by rw [Ap (nT b _ e),e];simp⟩) (λm hm=>?_) (λb v e=>?_) I.bare
 ·obtain⟨o,es,ep,ho,r⟩:=hm
  exact⟨o,es,ep,k _ o (λz=>hf.2.1 z.symm) ho,r⟩
 ·by_cases hb:b=a
  ·subst hb
   rw [Ai] at e;cases e
   exact ok
  ·rw [Ap hb] at e
   refine(I.hok b v e).stay (λc v hc q=>k c v ?_ q) (λc q=>by rw [Ap (nT c _ q)];exact q) λc xs q=>by rw [Ap (nT c _ q)];exact q
   rcases hc with z | z
   ·rw [z];exact hb
   ·exact nT c _ z
theorem Qq {i:Int}{e:Expr}{pos p1:Pos}{j1:Nat} (he:PE X e te):PE X (.Dict [some (.Constant (.int i) j1 p1)] [e] pos) (Qp i te):=λpins s σ H Q I h=>by
 refine wpAny_Dict_walk (knd:=AR X.prog X.w) rfl rfl (by simp) (by show 1<=15;decide) ?_
 refine pairTrees_cons_walk (wpAny_Constant_int ?_)
 dsimp only
 have hd0:(s.heap.push { cls:= .type "dict",data:= .dict #[]}).get? s.heap.objs.size=some { cls:= .type "dict",data:= .dict #[]}:=Heap.get?_push_size _ rfl
 have f0:Ba X pins H s.heap.objs.size:=I.fpOk (Nat.le_refl _) (I.hok.fresh (Nat.le_refl _))
 have I0:Ac X pins σ H { s with heap:=s.heap.push { cls:= .type "dict",data:= .dict #[]},toks:=s.toks+1}:=I.kept (t':=s.toks+1) λb o q=>Heap.get?_push_of_some _ q
 have I0':Ac X ((s.heap.objs.size,{ cls:= .type "dict",data:= .dict #[]})::pins) σ H { s with heap:=s.heap.push { cls:= .type "dict",data:= .dict #[]},toks:=s.toks+1}:=I0.pins_of λp hp=>by
  rcases List.mem_cons.mp hp with rfl | hp
  ·exact⟨hd0,f0.1,f0.2.1,f0.2.2.1,λv z=>by
    have z':Data.dict #[]=Data.cell v:=z
    cases z'⟩
  ·exact I0.pin p (List.mem_append_right _ hp)
 refine Am (he _ _ σ H _ I0' h) λu s1 ⟨y,H1,I1,ry,q⟩=>pairTrees_nil_walk ?_
 have pn:=I1.pin (s.heap.objs.size,{ cls:= .type "dict",data:= .dict #[]}) (List.mem_append_right _ List.mem_cons_self)
 have I2:Ac X pins σ H1 s1:=I1.pins_of λp hp=>I1.pin p (List.mem_append_right _ (List.mem_cons_of_mem _ hp))
 have f1:Ba X pins H1 s.heap.objs.size:=⟨pn.2.1,f0.2.1,f0.2.2.1,f0.2.2.2.1,f0.2.2.2.2.1,f0.2.2.2.2.2⟩
 have dn:s1.heap.DictOf (AR X.prog X.w) s.heap.objs.size []:=Heap.DictOf.at (Heap.DictOf.new s.heap) λo eo=>by rw [hd0] at eo;cases eo;exact pn.1
 refine⟨[(.inl i,u)],⟨Hm _ _ _ _,rfl,trivial⟩,dn,λh' hm hsb=>?_⟩
 obtain⟨o,es,ep,eo,r⟩:=id hm
 exact⟨.ref s.heap.objs.size,_,I2.trackN (u:= .frz o (.dK [(.inl i,y)])) (tk:=_) f1 (λb ob hb q=>hsb.extBut b ob hb q) ⟨o,eo⟩ ⟨eo,by show 1<=sizeLine;decide,beq_eq_false_iff_ne.mpr (Ne.symm (Nat.ne_of_lt I.big)),_,.cons ⟨rfl,ry⟩ .nil,hm⟩,rfl,q _ _ pn.2.1⟩
end
def KP (J:It) (cap:List (Option Nat)) (g:TG) (tt:TT) (tk te:TE) (σ:St) (Q:KL->Hp->Prop) (H1:Hp):Prop:=
 ∃W:Nat->Nat->KL->Hp->Prop,(∃m,W 0 m [] H1)/\∀i m ys H,W i m ys H->
  (J.stop i H/\Q ys H)\/
  (J.go i H /\ ys.length < sizeLine /\ ∃ N : KL -> Hp -> Prop, (∀ ys' H', N ys' H' -> ∃ m', m' < m /\ W (i + 1) m' ys' H') /\ ∀ x H', J.yld i H x H' -> g x (AM cap σ) H' fun σ2 H2 => Keep (AM cap σ) σ2 /\ tt σ2 H2 λb H3 =>
   br b (tk σ2 H3 λk H4=>te σ2 H4 λy H5=>∃kk,k=kV kk/\N (BQ ys kk y) H5) (N ys H3))
theorem Qr {J:It}{g:TG}{tk:TE} (n:Nat) (Pv:Nat->KL->Hp->Prop) (hn:n<=100000) (h0:Pv 0 [] H) (hz:∀i ys H,Pv i ys H->ys.length<=i)
  (hs:∀i ys H,i<n->Pv i ys H->J.go i H/\∀x H',J.yld i H x H'->g x (AM cap σ) H' fun σ2 H2=>Keep (AM cap σ) σ2/\tt σ2 H2 λb H3=>br b (tk σ2 H3 λk H4=>te σ2 H4 λy H5=>∃kk,k=kV kk/\Pv (i+1) (BQ ys kk y) H5) (Pv (i+1) ys H3))
  (hd:∀ys H,Pv n ys H->J.stop n H/\Q ys H):KP J cap g tt tk te σ Q H:=by
 refine⟨λi m ys H=>m=n-i/\i<=n/\Pv i ys H,⟨n,by simp,Nat.zero_le _,h0⟩,?_⟩
 rintro i m ys H ⟨rfl,hi,p⟩
 by_cases hlt:i<n
 ·obtain⟨a,b⟩:=hs i ys H hlt p
  refine .inr ⟨a,?_,Pv (i+1),λys' H' p'=>⟨n-(i+1),by omega,rfl,hlt,p'⟩,b⟩
  have:=hz i ys H p
  have:(100000:Nat)<sizeLine:=by decide
  omega
 ·have e:i=n:=by omega
  subst e
  exact .inl (hd ys H p)
theorem Qs {K:PySem.W.Frag}{xs:List V}{g:TG}{tk:TE} (Pv:Nat->KL->Hp->Prop) (hn:xs.length<=100000) (h0:Pv 0 [] H) (hz:∀i ys H,Pv i ys H->ys.length<=i)
  (hl:∀i ys H,i<=xs.length->Pv i ys H->Ae K H a xs)
  (hs:∀i x ys H,xs[i]? =some x->Pv i ys H->g x (AM cap σ) H fun σ2 H2=>Keep (AM cap σ) σ2/\tt σ2 H2 λb H3=>br b (tk σ2 H3 λk H4=>te σ2 H4 λy H5=>∃kk,k=kV kk/\Pv (i+1) (BQ ys kk y) H5) (Pv (i+1) ys H3))
  (hd:∀ys H,Pv xs.length ys H->Q ys H):KP (DL K a) cap g tt tk te σ Q H:=
 Qr xs.length Pv hn h0 hz (λi ys H hi p=>⟨⟨xs,xs[i],hl i ys H (Nat.le_of_lt hi) p,by simp [hi]⟩,λx H' ⟨e,y⟩=>by subst e;exact hs i x ys _ (y xs (hl i ys _ (Nat.le_of_lt hi) p)) p⟩)
  λys H p=>⟨⟨xs,hl _ ys H (Nat.le_refl _) p,Nat.le_refl _⟩,hd ys H p⟩
end L2
end
section
namespace L2
open PySem PySem.Spec PyProof.Rows SeqAt
def OrdAt (op:CmpOp) (A:Around) (s:Shared) (y x:Value) (b:Bool):Prop:=
 ∀(P:Program) (w:World) (E Q:Value->Shared->Prop),Q (.bool b) s->wpAny (model P w) A (richCompare op y x) Q E s
inductive Da (op:CmpOp) (A:Around) (s:Shared) (last:Bool):List (Value×Value)->Bool->Prop
 | none:Da op A s last [] last
 | same {x y:Value}{ps:List (Value×Value)}{r:Bool}:EqAt A s x y true->Da op A s last ps r->Da op A s last ((x,y)::ps) r
 | unlike {x y:Value}{ps:List (Value×Value)}{r:Bool}:EqAt A s x y false->OrdAt op A s x y r->Da op A s last ((x,y)::ps) r
theorem OrdAt.gtI {A:Around}{s:Shared} (a b:Int) (t u:Tok):OrdAt .Gt A s (.int a t) (.int b u) (decide (a>b)):=λP w E Q h=>
 CmpOf.ints_gt (P:=λi v=>v=if i=0 then Value.int a t else Value.int b u) (λi=>if i=0 then a else b) (λi v e=>by
  by_cases z:i=0
  ·rw [if_pos z] at e ⊢;exact⟨t,e⟩
  ·rw [if_neg z] at e ⊢;exact⟨u,e⟩) 0 1 _ _ s Q E rfl rfl h
theorem Qt (l b:Addr) (xs ys:Array Value) (n m:Nat) (d1 d2:Option Addr) (s1 s2:Array (Option Value)) (r:Bool):
  Meets (Builtin.«tuple.__gt__» ⟨[.ref l,.ref b],[]⟩) (λA R s=>s.heap.get? l=some { cls:= .type "tuple",dict:=d1,data:= .seq xs n,slots:=s1}/\s.heap.get? b=some { cls:= .type "tuple",dict:=d2,data:= .seq ys m,slots:=s2}/\Da .Gt A.in1 s (decide (xs.size>ys.size)) (xs.toList.zip ys.toList) r/\R (.ok (.ret (.bool r))) s):=
 .of_wp λP w A R s hyp=>by
  obtain⟨hp,g,d,tk,os⟩:=s
  obtain⟨hl,hb,told,fin⟩:=hyp
  have tt:=AutoSeq1.sub_tuple_tuple
  wp_walk using AutoSeq1.wpAny_loadPart' hl,AutoSeq1.wpAny_loadPart' hb,wpAny_forIn_list _ (λleft st s'=>st.1=none/\s'=⟨hp,g,d,tk,os⟩/\Da .Gt A.in1 ⟨hp,g,d,tk,os⟩ (decide (xs.size>ys.size)) left r) _
  case turn=>
   rintro⟨x,y⟩ left st s' ⟨_,rfl,told⟩
   cases told with
   | same e more=>
    refine wpAny_bind (e P w _ _ ?_)
    wp_walk
    exact⟨rfl,rfl,more⟩
   | unlike e o=>
    refine wpAny_bind (e P w _ _ ?_)
    unfold OrdAt at o
    wp_walk using o P w _ _
    exact⟨_,rfl,fin⟩
  case fin=>
   rintro⟨st1,st2⟩ s' ⟨hs,rfl,told⟩
   replace hs:st1=_:=hs
   subst hs
   cases told
   wp_walk
   exact⟨_,rfl,fin⟩
  case h=>exact⟨rfl,rfl,told⟩
theorem OrdAt.gtT {A:Around}{s:Shared}{l b:Addr}{xs ys:Array Value}{r:Bool} (hl:IsTup s.heap l xs) (hb:IsTup s.heap b ys) (hu:A.units<cLine) (told:Da .Gt A.in1 s (decide (xs.size>ys.size)) (xs.toList.zip ys.toList) r):OrdAt .Gt A s (.ref l) (.ref b) r:=λP w E Q h=>by
 obtain⟨⟨c1,d1,t1,s1⟩,o1,e1,n,f1⟩:=hl
 obtain⟨⟨c2,d2,t2,s2⟩,o2,e2,m,f2⟩:=hb
 cases e1;cases f1;cases e2;cases f2
 exact richCompare_meets_room (op:= .Gt) ⟨_,o1,rfl⟩ ⟨_,o2,rfl⟩ F.slot_tuple_gt F.entry_tuple_gt (F.args_tuple_gt_2 _ _) (Qt l b xs ys n m d1 d2 s1 s2 r) ⟨o1,o2,told,(λz=>nomatch z),h⟩ hu
end L2
end
section
namespace L2
open PySem PySem.Spec PyProof.Rows SeqAt
variable {bt : Value -> Value -> Bool}
def better (bt:Value->Value->Bool):Option Value->Value->Option Value
 | none,v=>some v
 | some b,v=>if bt v b then some v else some b
def Im:Option Value->Array Value
 | none=> #[]
 | some b=> #[b,b]
abbrev Io (c:Array Value) (k:Nat):Obj:= { cls:= .type "list",dict:=none,data:= .seq c k,slots:= #[]}
def EX (h0 h:Heap):Prop:=∀b o,h0.get? b=some o->h.get? b=some o
theorem Ip (o:Option Value):(Im o).size<=sizeLine:=by cases o<;>(first | exact(show 0<=sizeLine by decide) | exact(show 2<=sizeLine by decide))
theorem Qu {o:Option Value}{v:Value}:better bt o v≠none:=by
 cases o with
 | none=>intro z;cases z
 | some b=>
  show(if bt v b then some v else some b)≠none
  cases bt v b<;>(intro z;cases z)
theorem Qv {P:Program}{w:World}{A:Around}{R:Result->Shared->Prop}{I S:Addr}{fp wr:List Addr}{vs:List Value}{St:Nat->Heap->Prop}{h0:Heap}{bt:Value->Value->Bool}
  (W:Walks P w A.in1 I fp wr vs.length (λi v=>vs[i]? =some v) St) (nS:S ∉ fp) (oS:h0.get? S=none) (ow:∀b∈wr,h0.get? b=none)
  (cmp:∀x y s,x∈vs->y∈vs->EX h0 s.heap->OrdAt .Gt A.in1 s x y (bt x y)):
  ∀(k j:Nat) (s:Shared) (old:Option Value) (c:Nat),vs.length-j=k->j<=vs.length->St j s.heap->EX h0 s.heap->s.heap.get? S=some (Io (Im old) c)->(∀b,old=some b->b∈vs)->(old=none->j<vs.length)->
   (∀v h tk,(vs.drop j).foldl (better bt) old=some v->(∀b o,b ∉ wr->b≠S->s.heap.get? b=some o->h.get? b=some o)->R (.ok (.ret v)) { s with heap:=h,toks:=tk})->
   codeAny (model P w) A (.builtin "max.loop" ⟨[.ref I,.none,.ref S],[]⟩) R s:=by
 have nw:S ∉ wr:=λz=>nS (W.sub _ z)
 have again':(toString "max" ++toString ".loop" :String)="max.loop" :=by decide
 have apart:∀ {b:Addr}{o:Obj},h0.get? b=some o->b ∉ wr/\b≠S:=λ{b o} e=>⟨λz=>(by rw [ow b z] at e;cases e),λz=>(by rw [z,oS] at e;cases e)⟩
 intro k
 induction k with
 | zero=>
  intro j s old c hk hj st held at' mem some' fin
  obtain rfl:j=vs.length:=by omega
  cases old with
  | none=>exact absurd (some' rfl) (Nat.lt_irrefl _)
  | some b=>
   refine codeAny_builtin F.entry_max_loop ?_
   rw [Around.under_plainId F.plain_max_loop _]
   show wpAny _ A.in1 (seqItems? (.ref S) >>=_) _ _ s
   refine wpAny_bind (wpAny_seqItems at' rfl ?_)
   show wpAny _ A.in1 (tryCatch (pyNext (.ref I)) _>>=_) _ _ s
   refine wpAny_bind (wpAny_tryCatch (W.done s _ _ st λh1 tk kept=>?_))
   show wpAny _ A.in1 (updateSeq S (λ_=> #[]) >>=_) _ _ _
   refine wpAny_bind (wpAny_updateSeq (hz:=Ip _) (kept S _ nw at') rfl (wpAny_bind (wpAny_letGo (wpAny_pure ?_))))
   exact fin b _ tk (by rw [List.drop_length];rfl) λa o ha hS e=>(Heap.get?_update_other _ _ (Ne.symm hS)).trans (kept a o ha e)
 | succ k ih=>
  intro j s old c hk hj st held at' mem some' fin
  have lt:j<vs.length:=by omega
  have dr:vs.drop j=vs[j]::vs.drop (j+1):=List.drop_eq_getElem_cons lt
  refine codeAny_builtin F.entry_max_loop ?_
  rw [Around.under_plainId F.plain_max_loop _]
  show wpAny _ A.in1 (seqItems? (.ref S) >>=_) _ _ s
  refine wpAny_bind (wpAny_seqItems at' rfl ?_)
  show wpAny _ A.in1 (tryCatch (pyNext (.ref I)) _>>=_) _ _ s
  refine wpAny_bind (wpAny_tryCatch (W.item j s _ _ lt st λv h1 tk got st1 kept=>?_))
  have ev:v=vs[j]:=by rw [List.getElem?_eq_getElem lt] at got;exact(Option.some.inj got).symm
  have mv:v∈vs:=by rw [ev];exact List.getElem_mem lt
  have at1:=kept S _ nw at'
  have held1:EX h0 h1:=λb o e=>kept b o (apart e).1 (held b o e)
  have next:∀(h2:Heap) (tk2 c2:Nat),h2.get? S=some (Io (Im (better bt old v)) c2)->(∀b o,b≠S->h1.get? b=some o->h2.get? b=some o)->
    codeAny (model P w) A (.builtin "max.loop" ⟨[.ref I,.none,.ref S],[]⟩) R { s with heap:=h2,toks:=tk2}:=λh2 tk2 c2 at2 k2=>by
   refine ih (j+1) { s with heap:=h2,toks:=tk2} (better bt old v) c2 (by omega) lt (W.frame _ _ _ st1 λb hb o e=>k2 b o (λz=>nS (by rw [<-z];exact hb)) e) (λb o e=>k2 b o (apart e).2 (held1 b o e)) at2 (λb e=>?_) (λe=>absurd e Qu) λu h3 tk3 e k3=>fin u h3 tk3 (by rw [dr,List.foldl_cons,<-ev];exact e) λb o hb hS q=>k3 b o hb hS (k2 b o hS (kept b o hb q))
   cases old with
   | none=>cases e;exact mv
   | some b0=>
    have e':(if bt v b0 then some v else some b0)=some b:=e
    split at e'
    ·cases e';exact mv
    ·cases e';exact mem _ rfl
  cases old with
  | none=>
   show wpAny _ A.in1 (updateSeq S (λ_=> #[v,v]) >>=_) _ _ _
   refine wpAny_bind (wpAny_updateSeq (hz:=Ip _) at1 rfl ?_)
   rw [again']
   exact wpAny_pure ⟨plainId_quiet F.plain_max_loop _,next _ tk _ (Heap.get?_update_self _ at1 rfl) λb o hb e=>(Heap.get?_update_other _ _ (Ne.symm hb)).trans e⟩
  | some b=>
   show wpAny _ A.in1 (tryCatch (holding [v,v] (richCompare .Gt v b>>=_)) _>>=_) _ _ _
   refine wpAny_bind (wpAny_tryCatch (wpAny_holding (wpAny_bind (cmp v b _ mv (mem b rfl) held1 P w _ _ ?_))))
   refine wpAny_bind (wpAny_holding (wpAny_truthy_bool (wpAny_bind (wpAny_letGo (wpAny_pure ?_)))))
   cases up:bt v b with
   | true=>
    have eb:better bt (some b) v=some v:=(show(if bt v b then some v else some b)=_ from by rw [up];rfl)
    rw [if_pos rfl]
    refine wpAny_bind (wpAny_updateSeq (hz:=Ip _) at1 rfl (wpAny_bind (wpAny_letGo ?_)))
    rw [again']
    exact wpAny_pure ⟨plainId_quiet F.plain_max_loop _,next _ tk _ (by rw [eb];exact Heap.get?_update_self _ at1 rfl) λb o hb e=>(Heap.get?_update_other _ _ (Ne.symm hb)).trans e⟩
   | false=>
    have eb:better bt (some b) v=some b:=(show(if bt v b then some v else some b)=_ from by rw [up];rfl)
    rw [if_neg Bool.false_ne_true]
    refine wpAny_bind (wpAny_letGo ?_)
    rw [again']
    exact wpAny_pure ⟨plainId_quiet F.plain_max_loop _,next h1 tk c (by rw [eb];exact at1) λb o hb e=>e⟩
theorem Qw {P:Program}{w:World}{A:Around}{E Q:Value->Shared->Prop}{s:Shared}{l:Addr}{vs:List Value} (hh:A.handled=none) (hl:s.heap.IsList l vs.toArray) (ne:vs≠ [])
  (cmp:∀x y s',x∈vs->y∈vs->EX s.heap s'.heap->OrdAt .Gt A.in1 s' x y (bt x y))
  (fin:∀v h tk,vs.foldl (better bt) none=some v->(∀b o,s.heap.get? b=some o->h.get? b=some o)->Q v { s with heap:=h,toks:=tk}):wpAny (model P w) A (call (.builtin "max") [.ref l]) Q E s:=by
 have again':(toString "max" ++toString ".loop" :String)="max.loop" :=by decide
 refine call_function_tree F.kind_max F.plain_max F.entry_max (F.args_max1 _) ?_
 show wpAny _ A.in1 (Builtin.Builtins.bindParams "max" ["key","default"] 0 ⟨[],[]⟩ >>=_) _ _ s
 refine wpAny_bind (wpAny_of_eq (a:=[none,none]) rfl (wpAny_bind (wpAny_pure (wpAny_bind ?_))))
 obtain⟨ol,eol,_⟩:=id hl
 have lt:=Heap.lt_size eol
 refine wpAny_pyIter_list hl (wpAny_bind (wpAny_newObj_type ?_))
 rw [again']
 dsimp only
 have z1:(s.heap.push { cls:= .type "list_iterator",data:= .fields #[.ref l,.int 0 0]}).objs.size=s.heap.objs.size+1:=Heap.size_push ..
 have new0:∀a,s.heap.objs.size<=a->s.heap.get? a=none:=λa ha=>by
  cases e:s.heap.get? a with
  | none=>rfl
  | some o=>exact absurd (Heap.lt_size e) (Nat.not_lt.mpr ha)
 have kk:∀b o,s.heap.get? b=some o->((s.heap.push { cls:= .type "list_iterator",data:= .fields #[.ref l,.int 0 0]}).push (Io #[] 0)).get? b=some o:=λb o e=>Heap.get?_push_of_some _ (Heap.get?_push_of_some _ e)
 have sz:vs.toArray.size=vs.length:=by simp
 have W:=Walks.list (prog:=P) (w:=w) (A:=A.in1) hh s.heap.objs.size l (Nat.ne_of_lt lt) vs.toArray
 have eP:(fun(i:Nat) (v:Value)=>vs.toArray[i]? =some v)=(λi v=>vs[i]? =some v):=by funext i v;simp
 rw [sz,eP] at W
 rw [z1]
 refine wpAny_pure ⟨plainId_quiet F.plain_max_loop _,Qv (h0:=s.heap) (bt:=bt) (S:=s.heap.objs.size+1) W (λz=>by
  rcases List.mem_cons.mp z with z | z
  ·exact absurd z (Nat.succ_ne_self _)
  ·exact absurd (List.mem_singleton.mp z) (Nat.ne_of_gt (Nat.lt_succ_of_lt lt))) (new0 _ (Nat.le_succ _)) (λb hb=>by rw [List.mem_singleton.mp hb];exact new0 _ (Nat.le_refl _)) cmp vs.length 0 _ none 0 rfl (Nat.zero_le _) ?_ kk (by rw [<-z1];exact Heap.get?_push_size _ rfl) (λb e=>nomatch e) (λ_=>List.length_pos_iff.mpr ne) λv h tk e k2=>fin v h tk e λb o q=>k2 b o (λz=>by rw [List.mem_singleton.mp z,new0 _ (Nat.le_refl _)] at q;cases q) (λz=>by rw [z,new0 _ (Nat.le_succ _)] at q;cases q) (kk b o q)⟩
 exact⟨⟨_,Heap.get?_push_of_some _ (Heap.get?_push_size _ rfl),rfl,rfl⟩,hl.at λo e=>kk _ o e⟩
end L2
end
section
namespace L2
open PySem PySem.Spec PyProof.Rows SeqAt
inductive Cmp:PyData->PyData->Prop
 | int (a b:Int):Cmp (.int a) (.int b)
 | row (as bs:List Int):Cmp (.tuple (as.map .int)) (.tuple (bs.map .int))
def KQ:∀(as:List Int),PyData.canLayAll0 (as.map .int)=true/\PyData.hasDictAll (as.map .int)=false/\PyData.depthAll (as.map .int)=0
 | []=>⟨rfl,rfl,rfl⟩
 | a::as=>by
  obtain⟨h1,h2,h3⟩:=KQ as
  refine⟨?_,?_,?_⟩
  ·show PyData.canLayAll0 (.int a::as.map .int)=true
   unfold PyData.canLayAll0;rw [h1];rfl
  ·show PyData.hasDictAll (.int a::as.map .int)=false
   unfold PyData.hasDictAll;rw [h2];rfl
  ·show PyData.depthAll (.int a::as.map .int)=0
   unfold PyData.depthAll;rw [h3];rfl
theorem Cmp.left {d e:PyData} (h:Cmp d e):d.canLay0=true/\d.hasDict=false/\d.depth<=1:=by
 cases h with
 | int a b=>exact⟨rfl,rfl,Nat.zero_le _⟩
 | row as bs=>
  obtain⟨h1,h2,h3⟩:=KQ as
  refine⟨?_,?_,?_⟩
  ·unfold PyData.canLay0;exact h1
  ·unfold PyData.hasDict;exact h2
  ·unfold PyData.depth;rw [h3];exact Nat.le_refl _
theorem Cmp.symm {d e:PyData} (h:Cmp d e):Cmp e d:=by
 cases h with
 | int a b=>exact .int b a
 | row as bs=>exact .row bs as
theorem EY {h:Heap}:∀ {us:List Value}{ds:List PyData}{as:List Addr},ReadsAll h us ds as->us.length=ds.length
 | _,_,_,.nil=>rfl
 | _,_,_,.cons _ t=>by rw [List.length_cons,List.length_cons,EY t]
theorem En {h:Heap}{u:Value}{ds:List PyData}{as:List Addr} (r:Reads h u (.tuple ds) as):∃a vs,u= .ref a/\IsTup h a vs.toArray/\ReadsAll h vs ds as:=by
 cases r with
 | tuple e c d ra=>exact⟨_,_,rfl,⟨_,e,c,_,by rw [d]⟩,ra⟩
theorem Iq {bt:Value->Value->Bool}{f:Value->Int}{S:Value->Prop} (h1:∀x y,S x->S y->bt x y=true->f y<=f x) (h2:∀x y,S x->S y->bt x y=false->f x<=f y):∀(l:List Value) (b v:Value),S b->(∀x∈l,S x)->l.foldl (better bt) (some b)=some v->(v=b\/v∈l)/\f b<=f v/\∀x∈l,f x<=f v
 | [],b,v,_,_,e=>by cases e;exact⟨.inl rfl,Int.le_refl _,λx hx=>nomatch hx⟩
 | y::l,b,v,sb,sl,e=>by
  rw [List.foldl_cons] at e
  have e':l.foldl (better bt) (if bt y b then some y else some b)=some v:=e
  have sy:=sl y List.mem_cons_self
  have sl':∀x∈l,S x:=λx hx=>sl x (List.mem_cons_of_mem _ hx)
  cases c:bt y b with
  | true=>
   rw [c,if_pos rfl] at e'
   obtain⟨m,a,q⟩:=Iq h1 h2 l y v sy sl' e'
   refine⟨.inr (m.elim (λz=>by rw [z];exact List.mem_cons_self) λz=>List.mem_cons_of_mem _ z),Int.le_trans (h1 y b sy sb c) a,λx hx=>?_⟩
   rcases List.mem_cons.mp hx with rfl | hx
   ·exact a
   ·exact q x hx
  | false=>
   rw [c,if_neg Bool.false_ne_true] at e'
   obtain⟨m,a,q⟩:=Iq h1 h2 l b v sb sl' e'
   refine⟨m.elim .inl λz=> .inr (List.mem_cons_of_mem _ z),a,λx hx=>?_⟩
   rcases List.mem_cons.mp hx with rfl | hx
   ·exact Int.le_trans (h2 x b sy sb c) a
   ·exact q x hx
def Ga (last:Bool):List Int->List Int->Bool
 | a::as,b::bs=>if a=b then Ga last as bs else decide (a>b)
 | _,_=>last
theorem KR {A:Around}{s:Shared}{last:Bool}:∀ {as bs:List Int}{us ws:List Value}{x y:List Addr},ReadsAll s.heap us (as.map .int) x->ReadsAll s.heap ws (bs.map .int) y->Da .Gt A s last (us.zip ws) (Ga last as bs)
 | [],_,_,_,_,_,r,_=>by cases r;exact .none
 | _::_,[],_,_,_,_,r,q=>by cases q;rw [List.zip_nil_right];exact .none
 | a::as,b::bs,us,ws,x,y,r,q=>by
  cases r with
  | cons r1 r2=>
   cases q with
   | cons q1 q2=>
    cases r1 with
    | int i t=>
     cases q1 with
     | int j u=>
      rw [List.zip_cons_cons]
      unfold Ga
      split
      ·rename_i e
       subst e
       refine .same ?_ (KR r2 q2)
       have:=EqAt.int_int (A:=A) (s:=s) a t a u
       simpa using this
      ·rename_i e
       refine .unlike ?_ (OrdAt.gtI a b t u)
       have:=EqAt.int_int (A:=A) (s:=s) a t b u
       rw [show(a==b)=false from by simpa using e] at this
       exact this
def Ir (d e:PyData):Bool:=match d,e with
 | .int a,.int b=>decide (a>b)
 | .tuple xs,.tuple ys=>Ga (decide (xs.length>ys.length)) (xs.filterMap fun | .int i=>some i | _=>none) (ys.filterMap fun | .int i=>some i | _=>none)
 | _,_=>false
theorem Iu:∀(as:List Int),((as.map PyData.int).filterMap fun | .int i=>some i | _=>none)=as
 | []=>rfl
 | a::as=>by rw [List.map_cons,List.filterMap_cons];simp only;rw [Iu as]
theorem Qx {A:Around}{s:Shared}{d e:PyData}{u v:Value}{x y:List Addr} (h:Cmp d e) (r:Reads s.heap u d x) (q:Reads s.heap v e y) (hu:A.units<cLine):OrdAt .Gt A s u v (Ir d e):=by
 cases h with
 | int a b=>
  cases r with
  | int i t=>
   cases q with
   | int j t'=>exact OrdAt.gtI a b t t'
 | row as bs=>
  obtain⟨a,us,rfl,hl,ra⟩:=En r
  obtain⟨b,ws,rfl,hb,rb⟩:=En q
  have l1:us.length=as.length:=by have:=EY ra;rw [List.length_map] at this;exact this
  have l2:ws.length=bs.length:=by have:=EY rb;rw [List.length_map] at this;exact this
  refine OrdAt.gtT hl hb hu ?_
  have:=KR (A:=A.in1) (last:=decide (us.length>ws.length)) ra rb
  unfold Ir
  dsimp only
  rw [Iu,Iu,List.length_map,List.length_map,<-l1,<-l2]
  simpa using this
def Eo (last:Bool):List PyData->List PyData->Bool
 | d::ds,e::es=>if PyData.eqv d e then Eo last ds es else Ir d e
 | _,_=>last
theorem KS {A:Around}{s:Shared}{last:Bool} (hu:A.units+5<cLine):∀ {ds es:List PyData}{us ws:List Value}{x y:List Addr},Paired Cmp ds es->ReadsAll s.heap us ds x->ReadsAll s.heap ws es y->Da .Gt A s last (us.zip ws) (Eo last ds es)
 | _,_,_,_,_,_,.nil,r,q=>by cases r;exact .none
 | d::ds,e::es,us,ws,x,y,.cons c t,r,q=>by
  cases r with
  | cons r1 r2=>
   cases q with
   | cons q1 q2=>
    rw [List.zip_cons_cons]
    obtain⟨c1,c2,c3⟩:=c.left
    obtain⟨e1,e2,e3⟩:=c.symm.left
    have eq:=eqAt_reads d e A s _ _ _ _ r1 q1 c1 e1 (by omega)
    unfold Eo
    cases z:PyData.eqv d e with
    | true=>rw [z] at eq;exact .same eq (KS hu t r2 q2)
    | false=>rw [z] at eq;exact .unlike eq (Qx c r1 q1 (by omega))
theorem KU {X:Cx}{k:Nat} (hc:X.calm=true) (hr:Bb k X.A):Be X (.builtin "max") (λxs H Q=>∃(p l:Addr) (fs:List (Int×List PyData)) (vs:List V),xs=[.ref l]/\H l=some (.lst vs)/\Ad p H (fs.map λq=> .tuple (.int q.1::q.2)) vs/\fs≠ []/\(∀q∈fs,∀q'∈fs,Paired Cmp q.2 q'.2)/\
  ∀(i:Nat) q v,fs[i]? =some q->vs[i]? =some v->(∀q'∈fs,q'.1<=q.1)->Q v H):=by
 intro pins s σ H xs us Q I r h
 obtain⟨p,l,fs,vs,rfl,hl,rs,ne,cm,q⟩:=h
 obtain⟨u,rfl,ru⟩:=r.one
 cases ru
 obtain⟨its,rv,pl,hz⟩:=I.list (An.of hl)
 have un:=hr.un
 have lv:=rv.length
 have lf:=rs.len
 rw [List.length_map] at lf
 --what each value reads
 have rd:∀(i:Nat) (x:Value),its[i]? =some x->∃q v as,fs[i]? =some q/\vs[i]? =some v/\Av v x/\Reads s.heap x (.tuple (.int q.1::q.2)) as:=λi x hx=>by
  have hi:=(List.getElem?_eq_some_iff.mp hx).1
  have hf:fs[i]? =some fs[i]:=List.getElem?_eq_getElem (by omega)
  obtain⟨v,hv,rep⟩:=rs.get (i:=i) (d:= .tuple (.int (fs[i]).1::(fs[i]).2)) (by rw [List.getElem?_map,hf];rfl)
  obtain⟨x',hx',rx⟩:=rv.get hv
  rw [hx] at hx';cases hx'
  have mem:=List.getElem_mem (l:=fs) (n:=i) (by omega)
  have nd:(PyData.tuple (.int (fs[i]).1::(fs[i]).2)).hasDict=false:=by
   have:=cm _ mem _ mem
   generalize(fs[i]).2=ds at this
   have all:∀ {ds es:List PyData},Paired Cmp ds es->PyData.hasDictAll ds=false:=by
    intro ds es t
    induction t with
    | nil=>rfl
    | cons c _ ih=>unfold PyData.hasDictAll;rw [c.left.2.1,ih];rfl
   unfold PyData.hasDict PyData.hasDictAll
   rw [all this];rfl
  obtain⟨as,rr⟩:=Aa.reads I _ v x nd rep rx
  exact⟨_,v,as,hf,hv,rx,rr⟩
 have get:∀x∈its,∃q as,q∈fs/\Reads s.heap x (.tuple (.int q.1::q.2)) as:=λx hx=>by
  obtain⟨i,hi⟩:=List.getElem?_of_mem hx
  obtain⟨q,v,as,hf,_,_,r⟩:=rd i x hi
  exact⟨q,as,List.mem_of_getElem? hf,r⟩
 --the first number of a value
 have first:∀x,∃n:Int,∀(q:Int) (ds:List PyData) (as:List Addr),Reads s.heap x (.tuple (.int q::ds)) as->q=n:=λx=>by
  by_cases z:∃(q:Int) (ds:List PyData) (as:List Addr),Reads s.heap x (.tuple (.int q::ds)) as
  ·obtain⟨q,ds,as,r⟩:=z
   refine⟨q,λq' ds' as' r'=>?_⟩
   obtain⟨a,us,rfl,hl1,ra⟩:=En r
   obtain⟨b,ws,e,hl2,rb⟩:=En r'
   cases e
   obtain⟨o1,g1,c1,n1,d1⟩:=hl1
   obtain⟨o2,g2,c2,n2,d2⟩:=hl2
   rw [g1] at g2;cases g2
   rw [d1] at d2
   have:us=ws:=by injection d2 with d2 _;simpa using d2
   subst this
   cases ra with
   | cons a1 _=>
    cases rb with
    | cons b1 _=>cases a1;cases b1;rfl
  ·exact⟨0,λq ds as r=>absurd ⟨q,ds,as,r⟩ z⟩
 obtain⟨f,hf⟩:=Classical.axiomOfChoice first
 have ex:∀z:Value×Value,∃b:Bool,(z.1∈its->z.2∈its->∀s':Shared,EX s.heap s'.heap->OrdAt .Gt X.A.in1 s' z.1 z.2 b)/\(b=true->z.1∈its->z.2∈its->f z.2<=f z.1)/\(b=false->z.1∈its->z.2∈its->f z.1<=f z.2):=λz=>by
  by_cases m1:z.1∈its
  ·by_cases m2:z.2∈its
   ·obtain⟨q1,a1,k1,r1⟩:=get _ m1
    obtain⟨q2,a2,k2,r2⟩:=get _ m2
    have e1:=hf z.1 q1.1 q1.2 a1 r1
    have e2:=hf z.2 q2.1 q2.2 a2 r2
    have pc:Paired Cmp (.int q1.1::q1.2) (.int q2.1::q2.2):= .cons (.int _ _) (cm q1 k1 q2 k2)
    refine⟨Eo (decide ((PyData.int q1.1::q1.2).length>(PyData.int q2.1::q2.2).length)) (.int q1.1::q1.2) (.int q2.1::q2.2),λ_ _ s' held=>?_,λb _ _=>?_,λb _ _=>?_⟩
    ·obtain⟨c1,us,ez1,h1,ra⟩:=En (Reads.keeps held r1)
     obtain⟨c2,ws,ez2,h2,rb⟩:=En (Reads.keeps held r2)
     rw [ez1,ez2]
     refine OrdAt.gtT h1 h2 (by simp only [Around.in1_units];omega) ?_
     have l1:=EY ra
     have l2:=EY rb
     have:=KS (A:=X.A.in1.in1) (s:=s') (last:=decide ((PyData.int q1.1::q1.2).length>(PyData.int q2.1::q2.2).length)) (by simp only [Around.in1_units];omega) pc ra rb
     rw [<-l1,<-l2] at this ⊢
     simpa using this
    ·unfold Eo at b
     by_cases z:q1.1=q2.1
     ·omega
     ·rw [if_neg (by unfold PyData.eqv;simpa using z)] at b
      have b':decide (q1.1>q2.1)=true:=b
      have:=of_decide_eq_true b'
      omega
    ·unfold Eo at b
     by_cases z:q1.1=q2.1
     ·omega
     ·rw [if_neg (by unfold PyData.eqv;simpa using z)] at b
      have b':decide (q1.1>q2.1)=false:=b
      have:=of_decide_eq_false b'
      omega
   ·exact⟨true,λ_ m=>absurd m m2,λ_ _ m=>absurd m m2,λz=>nomatch z⟩
  ·exact⟨true,λm=>absurd m m1,λ_ m=>absurd m m1,λz=>nomatch z⟩
 obtain⟨bt,hbt⟩:=Classical.axiomOfChoice ex
 have nei:its≠ []:=λz=>ne (List.eq_nil_of_length_eq_zero (by rw [z] at lv;have l0:vs.length=0:=lv;omega))
 refine Qw (bt:=λx y=>bt (x,y)) (I.ok.hd hc) pl.isList nei (λx y s' mx my held=>(hbt (x,y)).1 mx my s' held) λv h tk e kept=>?_
 obtain⟨b0,rest,eits⟩:∃b r,its=b::r:=by
  cases its with
  | nil=>exact absurd rfl nei
  | cons b r=>exact⟨b,r,rfl⟩
 have e':rest.foldl (better λx y=>bt (x,y)) (some b0)=some v:=by rw [eits,List.foldl_cons] at e;exact e
 --outside of the list the answers don't matter
 have best:=Iq (S:=λx=>x∈its) (bt:=λx y=>bt (x,y)) (f:=f) (λx y hx hy b=>(hbt (x,y)).2.1 b hx hy) (λx y hx hy b=>(hbt (x,y)).2.2 b hx hy) rest b0 v (by rw [eits];exact List.mem_cons_self) (λx hx=>by rw [eits];exact List.mem_cons_of_mem _ hx) e'
 obtain⟨mv,f0,fr⟩:=best
 have mv':v∈its:=by
  rw [eits]
  rcases mv with z | z
  ·rw [z];exact List.mem_cons_self
  ·exact List.mem_cons_of_mem _ z
 have all:∀x∈its,f x<=f v:=λx hx=>by
  rw [eits] at hx
  rcases List.mem_cons.mp hx with rfl | hx
  ·exact f0
  ·exact fr x hx
 obtain⟨i,hi⟩:=List.getElem?_of_mem mv'
 obtain⟨qq,vv,as,hfq,hvv,rx,rr⟩:=rd i v hi
 refine⟨vv,H,I.kept kept,rx,q i qq vv hfq hvv λq' hq'=>?_⟩
 obtain⟨j,hj⟩:=List.getElem?_of_mem hq'
 have hj':=(List.getElem?_eq_some_iff.mp hj).1
 obtain⟨q2,v2,as2,hf2,_,_,r2⟩:=rd j its[j] (List.getElem?_eq_getElem (by omega))
 rw [hj] at hf2;cases hf2
 have:=all its[j] (List.getElem_mem _)
 rw [<-hf v qq.1 qq.2 as rr,<-hf its[j] q'.1 q'.2 as2 r2] at this
 omega
end L2
end
section
namespace MF
open PySem PySem.Spec PyProof.Rows L2
variable {p : Addr} {H : Hp} {T : TM} {kvs ks : KL} {v : V} {q : Ar × V}
def Dw (T:TM):Nat->List Int->Int
 | _,[]=>0
 | h,p::r=>Bl T h p (r.headD 0)+Dw T (h+1) r
def Asked (T:TM) (ps:List Int):Prop:=∀x∈ps,x∈0::T.co
structure OneTail (T:TM) (h:Nat) (x f:Int) (ps:List Int):Prop where
 len:ps.length=T.ds.length-h
 val:f=Dw T h ps
 hd:ps.headD 0=x
 as:Asked T ps
 top:∀qs:List Int,qs.length=T.ds.length-h->Asked T qs->qs.headD 0=x->Dw T h qs<=f
def DV (T:TM) (h:Nat) (x:Int):Prop:=if h=T.ds.length then x=0 else x∈0::T.co
structure CS (T:TM) (f:Int) (ps:List Int):Prop where
 val:f=CQ T ps
 len:ps.length=T.ds.length
 as:Asked T ps
 top:∀qs:List Int,qs.length=T.ds.length->Asked T qs->CQ T qs<=f
abbrev B6 (f:Int) (ps:List Int):PyData:= .tuple [.int f,Bd ps]
structure TailsAt (p:Addr) (H:Hp) (T:TM) (h:Nat) (kvs:KL):Prop where
 one:∀q∈kvs,∃x f ps,q.1= .inl x/\Aa p H (B6 f ps) q.2/\OneTail T h x f ps
 all:∀x,DV T h x->∃q∈kvs,q.1= .inl x
theorem TailsAt.same {H':Hp}{h:Nat} (t:TailsAt p H T h kvs) (s:Ab H H'):TailsAt p H' T h kvs:=
 ⟨λq hq=>by
  obtain⟨x,f,ps,e,r,o⟩:=t.one q hq
  exact⟨x,f,ps,e,Aa.ev (Ev.same s) _ _ r,o⟩,t.all⟩
theorem Qy {k:Ar} (h:q∈BQ ks k v):q∈ks\/q=(k,v):=by
 unfold BQ at h
 split at h
 ·obtain⟨q0,h0,e⟩:=List.mem_map.mp h
  split at e
  ·rename_i z
   exact .inr (by rw [<-e,z])
  ·exact .inl (by rw [<-e];exact h0)
 ·rcases List.mem_append.mp h with h | h
  ·exact .inl h
  ·exact .inr (List.mem_singleton.mp h)
theorem Qz {k:Ar}:∃q∈BQ ks k v,q.1=k:=by
 unfold BQ
 split
 ·rename_i z
  obtain⟨q,hq,e⟩:=List.any_eq_true.mp z
  have e':q.1=k:=of_decide_eq_true e
  exact⟨_,List.mem_map.mpr ⟨q,hq,rfl⟩,by rw [if_pos e'];exact e'⟩
 ·exact⟨(k,v),List.mem_append_right _ (List.mem_singleton.mpr rfl),rfl⟩
theorem QA {k:Ar} (h:q∈ks):∃q'∈BQ ks k v,q'.1=q.1:=by
 unfold BQ
 split
 ·refine⟨_,List.mem_map.mpr ⟨q,h,rfl⟩,?_⟩
  split<;>rfl
 ·exact⟨q,List.mem_append_left _ h,rfl⟩
theorem KW {T:TM}{h:Nat}{ps:List Int} (hl:ps.length=T.ds.length-h) (ha:Asked T ps) (hh:h<=T.ds.length):DV T h (ps.headD 0):=by
 unfold DV
 split
 ·cases ps with
  | nil=>rfl
  | cons a r=>rw [List.length_cons] at hl;omega
 ·cases ps with
  | nil=>rw [List.length_nil] at hl;omega
  | cons a r=>exact ha a List.mem_cons_self
theorem QB (r:Aa p H (B6 0 []) v):TailsAt p H T T.ds.length [(.inl 0,v)]:=by
 refine⟨λq hq=>?_,λx hx=>?_⟩
 ·rw [List.mem_singleton.mp hq]
  refine⟨0,0,[],rfl,r,by simp,rfl,rfl,λ_ h=>(nomatch h),λqs hl _ _=>?_⟩
  cases qs with
  | nil=>exact Int.le_refl _
  | cons a r=>simp at hl
 ·unfold DV at hx
  rw [if_pos rfl] at hx
  subst hx
  exact⟨_,List.mem_singleton.mpr rfl,rfl⟩
theorem OneTail.step {n:Nat} (t:TailsAt p H T (n+1) kvs) (hn:n<T.ds.length) {x b f:Int}{ps:List Int} (hx:x∈0::T.co) (o:OneTail T (n+1) b f ps)
  (top:∀b' f' ps',OneTail T (n+1) b' f' ps'->(∃q∈kvs,q.1= .inl b'/\Aa p H (B6 f' ps') q.2)->Bl T n x b'+f'<=Bl T n x b+f):OneTail T n x (Bl T n x b+f) (x::ps):=by
 refine⟨by rw [List.length_cons,o.len];omega,?_,rfl,λy hy=>?_,λqs hl ha hh=>?_⟩
 ·show _=Bl T n x (ps.headD 0)+Dw T (n+1) ps
  rw [o.hd,o.val]
 ·rcases List.mem_cons.mp hy with rfl | hy
  ·exact hx
  ·exact o.as y hy
 ·cases qs with
  | nil=>rw [List.length_nil] at hl;omega
  | cons a r=>
   have ea:a=x:=hh
   subst ea
   have lr:r.length=T.ds.length-(n+1):=by rw [List.length_cons] at hl;omega
   have ar:Asked T r:=λy hy=>ha y (List.mem_cons_of_mem _ hy)
   obtain⟨q,hq,eq⟩:=t.all _ (KW lr ar (by omega))
   obtain⟨b',f',ps',e1,r1,o1⟩:=t.one q hq
   rw [eq] at e1
   have e1':r.headD 0=b':=by injection e1
   subst e1'
   have h1:=o1.top r lr ar rfl
   have h2:=top _ f' ps' o1 ⟨q,hq,eq,r1⟩
   show Bl T n a (r.headD 0)+Dw T (n+1) r<=_
   omega
theorem QC {g:Nat->Int}:∀n,((List.range (n+1)).map g).sum=g 0+((List.range n).map λi=>g (i+1)).sum:=λn=>by
 rw [List.range_succ_eq_map,List.map_cons,List.sum_cons,List.map_map];rfl
theorem KY (r:List Int):r.headD 0=r.getD 0 0:=by cases r<;>rfl
theorem KZ:∀(ps:List Int) (h:Nat),Dw T h ps=((List.range ps.length).map λi=>Bl T (h+i) (ps.getD i 0) (ps.getD (i+1) 0)).sum
 | [],h=>rfl
 | p::r,h=>by
  show Bl T h p (r.headD 0)+Dw T (h+1) r=_
  rw [KZ r (h+1),List.length_cons,QC,KY]
  have e:(λi=>Bl T (h+(i+1)) ((p::r).getD (i+1) 0) ((p::r).getD (i+1+1) 0))=(λi=>Bl T (h+1+i) (r.getD i 0) (r.getD (i+1) 0)):=by
   funext i
   rw [show h+(i+1)=h+1+i by omega];rfl
  rw [e];rfl
theorem K0 (ps:List Int):Dw T 0 ps-ps.headD 0 * T.st=CQ T ps:=by
 rw [KZ,KY]
 unfold CQ Dv
 congr 3
 funext i
 rw [Nat.zero_add]
theorem QD (t:TailsAt p H T 0 kvs) {x f:Int}{ps:List Int} (o:OneTail T 0 x f ps) (top:∀x' f' ps',OneTail T 0 x' f' ps'->(∃q∈kvs,q.1= .inl x'/\Aa p H (B6 f' ps') q.2)->f'-x' * T.st<=f-x * T.st):CS T (f-x * T.st) ps:=by
 refine⟨?_,by have:=o.len;omega,o.as,λqs hl ha=>?_⟩
 ·rw [<-K0,<-o.val,o.hd]
 ·obtain⟨q,hq,eq⟩:=t.all _ (KW (h:=0) (by omega) ha (by omega))
  obtain⟨x',f',ps',e1,r1,o1⟩:=t.one q hq
  rw [eq] at e1
  have e1':qs.headD 0=x':=by injection e1
  subst e1'
  have h1:=o1.top qs (by omega) ha rfl
  have h2:=top _ f' ps' o1 ⟨q,hq,eq,r1⟩
  rw [<-K0]
  omega
end MF
namespace MF
open PySem PySem.Spec PyProof.Rows L2
def Gb (p:Addr) (H:Hp) (T:TM) (n:Nat) (g:Int->Int->Int) (hd:List Int->List Int) (q0:Ar×V) (fq:Int×List PyData):Prop:=∃b f ps,q0.1= .inl b/\Aa p H (B6 f ps) q0.2/\OneTail T n b f ps/\fq=(g b f,[Bd (hd ps)])
end MF
end
section
namespace MF
open PySem PySem.Spec PyProof.Rows L2
variable {T U : TM} {α : Type} {xs : List α} {i : Nat}
theorem QE {n f l:Nat} (h:f<=l) (hl:l<n):(f,l)∈BY n n:=by
 unfold BY
 refine List.mem_flatten.mpr ⟨Cz f (n-f),List.mem_map.mpr ⟨f,List.mem_range.mpr (by omega),rfl⟩,?_⟩
 unfold Cz
 exact List.mem_map.mpr ⟨l-f,List.mem_range.mpr (by omega),by show(f,f+(l-f))=(f,l);rw [show f+(l-f)=l by omega]⟩
theorem no_str:AK T=none↔ ∀f l,f<=l->l<T.ds.length->Bz T f l=false:=by
 unfold AK
 rw [List.head?_eq_none_iff]
 unfold Ek
 rw [List.filter_eq_nil_iff]
 constructor
 ·intro h f l hf hl
  have:=h (f,l) (QE hf hl)
  simpa using this
 ·intro h q hq
  obtain⟨h1,h2⟩:=Ky (Nat.le_refl _) q hq
  rw [h q.1 q.2 h1 h2]
  exact Bool.false_ne_true
theorem Gc:∀ {xs ys:List Int},xs.length=ys.length->(∀i,xs.getD i 0<=ys.getD i 0)->xs.sum<=ys.sum
 | [],[],_,_=>Int.le_refl _
 | [],_::_,h,_=>by simp at h
 | _::_,[],h,_=>by simp at h
 | x::xs,y::ys,h,g=>by
  have h0:x<=y:=g 0
  have:=Gc (xs:=xs) (ys:=ys) (by simpa using h) λi=>g (i+1)
  rw [List.sum_cons,List.sum_cons]
  omega
theorem K1 {f l:Nat}{d:α}:(part xs f l).getD i d=if i<l+1-f then xs.getD (f+i) d else d:=by
 unfold part
 rw [List.getD_eq_getElem?_getD,List.getElem?_take]
 split
 ·rw [List.getElem?_drop,List.getD_eq_getElem?_getD]
 ·rfl
theorem K2 {xs ys:List Int}{f l:Nat} (h:xs.length=ys.length) (g:∀i,xs.getD i 0<=ys.getD i 0):(part xs f l).sum<=(part ys f l).sum:=by
 refine Gc (by unfold part;rw [List.length_take,List.length_take,List.length_drop,List.length_drop,h]) λi=>?_
 rw [K1,K1]
 split
 ·exact g _
 ·exact Int.le_refl _
theorem QF {f l:Nat} (hd:T.ds.length=U.ds.length) (d:∀i,U.ds.getD i 0<=T.ds.getD i 0) (hc:T.cs.length=U.cs.length) (c:∀i,(T.cs.getD i []).sum<=(U.cs.getD i []).sum) (s:T.st<=U.st) (h:T.hi<=U.hi) (lo:U.lo<=T.lo) (no:Bz T f l=false):Bz U f l=false:=by
 unfold Bz at no ⊢
 have no':=of_decide_eq_false no
 refine decide_eq_false λz=>no' ?_
 have h1:Dt U f l<=Dt T f l:=K2 hd.symm d
 have h2:most T f l<=most U f l:=by
  unfold most
  rw [<-Ej,<-Ej]
  refine K2 (by rw [List.length_map,List.length_map,hc]) λi=>?_
  have e:∀V:TM,(V.cs.map List.sum).getD i 0=(V.cs.getD i []).sum:=λV=>by
   rw [List.getD_eq_getElem?_getD,List.getElem?_map,List.getD_eq_getElem?_getD]
   cases V.cs[i]? <;>rfl
  rw [e,e]
  exact c i
 split at z<;>split<;>omega
theorem Iv (hd:T.ds.length=U.ds.length) (d:∀i,U.ds.getD i 0<=T.ds.getD i 0) (hc:T.cs.length=U.cs.length) (c:∀i,(T.cs.getD i []).sum<=(U.cs.getD i []).sum) (s:T.st<=U.st) (h:T.hi<=U.hi) (lo:U.lo<=T.lo) (no:AK T=none):AK U=none:=
 no_str.mpr λf l hf hl=>QF hd d hc c s h lo (no_str.mp no f l hf (by omega))
theorem Gd {k:Nat}{x d:α} (hk:k<xs.length):(xs.set k x).getD i d=if i=k then x else xs.getD i d:=by
 rw [List.getD_eq_getElem?_getD,List.getElem?_set,List.getD_eq_getElem?_getD]
 by_cases z:k=i
 ·rw [if_pos z,if_pos (by omega),if_pos z.symm];rfl
 ·rw [if_neg z,if_neg (λe=>z e.symm)]
theorem QG {P:PL}{S:SY} (ok:P.ok) (so:S.ok P.bs.length) {f:Nat}:∀k,f+k<=S.ex.length->AZ P S (caps P S) (f+k)<=Bv (terms P S) f k:=λk=>by
 induction k with
 | zero=>
  intro _
  show AZ P S (caps P S) (f+0)<=(if f=0 then P.st else P.hi)
  cases f with
  | zero=>exact Int.le_refl _
  | succ f=>
   rw [if_neg (by omega)]
   show AZ P S (caps P S) (f+1)<=P.hi
   rw [C4]
   unfold CP
   split<;>omega
 | succ k ih=>
  intro hk
  have h1:=ih (by omega)
  have e:Bv (terms P S) f (k+1)=Bv (terms P S) f k+BX (caps P S) (f+k)-Cy P S (f+k):=rfl
  rw [e,show f+(k+1)=f+k+1 by omega,C4]
  unfold A8 CP
  split<;>omega
theorem QH {P:PL}{S:SY}:∀l,∃f,f<=l/\AZ P S (caps P S) l=Bv (terms P S) f (l-f):=λl=>by
 induction l with
 | zero=>exact⟨0,Nat.le_refl _,rfl⟩
 | succ l ih=>
  obtain⟨f,hf,e⟩:=ih
  by_cases z:0>A8 P S (caps P S) l-P.hi
  ·refine⟨f,by omega,?_⟩
   have e2:Bv (terms P S) f (l-f+1)=Bv (terms P S) f (l-f)+BX (caps P S) (f+(l-f))-Cy P S (f+(l-f)):=rfl
   rw [C4,show l+1-f=l-f+1 by omega,e2,<-e,show f+(l-f)=l by omega]
   unfold CP
   rw [if_pos z]
   unfold A8
   omega
  ·refine⟨l+1,Nat.le_refl _,?_⟩
   rw [Nat.sub_self]
   show _=(if l+1=0 then P.st else P.hi)
   rw [if_neg (by omega),C4]
   unfold CP
   rw [if_neg z]
   omega
theorem QI {P:PL}{S:SY} (ok:P.ok) (so:S.ok P.bs.length):(∀i,i<S.ex.length->P.lo<=A8 P S (caps P S) i) ↔AK (terms P S)=none:=by
 have tk:=Kt (P:=P) so
 have ld:(terms P S).ds.length=S.ex.length:=BH
 rw [no_str]
 constructor
 ·intro h f l hf hl
  rw [ld] at hl
  rw [<-KB tk hf (by rw [ld];exact hl)]
  unfold F9
  refine decide_eq_false ?_
  have h1:=h l hl
  have h2:=QG ok so (f:=f) (l-f) (by omega)
  rw [show f+(l-f)=l by omega] at h2
  have e2:Bv (terms P S) f (l-f+1)=Bv (terms P S) f (l-f)+BX (caps P S) (f+(l-f))-Cy P S (f+(l-f)):=rfl
  rw [show l+1-f=l-f+1 by omega,e2,show f+(l-f)=l by omega]
  unfold A8 at h1
  show ¬_<P.lo
  omega
 ·intro h l hl
  obtain⟨f,hf,e⟩:=QH (P:=P) (S:=S) l
  have h1:=h f l hf (by rw [ld];exact hl)
  rw [<-KB tk hf (by rw [ld];exact hl)] at h1
  unfold F9 at h1
  have h2:=of_decide_eq_false h1
  have e2:Bv (terms P S) f (l-f+1)=Bv (terms P S) f (l-f)+BX (caps P S) (f+(l-f))-Cy P S (f+(l-f)):=rfl
  rw [show l+1-f=l-f+1 by omega,e2,show f+(l-f)=l by omega,<-e] at h2
  unfold A8
  have:¬_<P.lo:=h2
  omega
end MF
end
section
namespace MF
open PySem PySem.Spec PyProof.Rows L2
structure DfC (K:PySem.W.Frag) (mg:Str->Option Value) (x:Str) (st:Stmt) (ps:List Str) (c:Addr):Prop where
 ex:∃(f:Addr) (fd:FuncData),P8 K x x st f fd c/\mg x=some (.ref f)/\PySem.W.keepIn K (.ref f)=true/\Binds K fd ps []
def Db (x:Int):List Int->Int
 | []=>x
 | y::ys=>if Db y ys<x then Db y ys else x
theorem K3 (x:Int):∀ys,Db x ys∈x::ys
 | []=>List.mem_cons_self
 | y::ys=>by
  unfold Db
  split
  ·exact List.mem_cons_of_mem _ (K3 y ys)
  ·exact List.mem_cons_self
theorem K4 (x:Int):∀ys,∀a∈x::ys,Db x ys<=a
 | [],a,h=>by rw [List.mem_singleton.mp h];exact Int.le_refl _
 | y::ys,a,h=>by
  have l:=K4 y ys
  unfold Db
  rcases List.mem_cons.mp h with rfl | h
  ·split<;>omega
  ·have:=l a h
   split<;>omega
def Dx (ms:List Int) (hi:Int) (at' hour:Nat):Int:=
 match((ms.take hour).drop at').map (hi- ·) with
 | []=>hi-ms.getD hour 0
 | x::xs=>Db x xs
theorem K9 {ms:List Int}{hi:Int}{a hour:Nat} (hh:hour<ms.length) (h1:∀k,a<=k->k<hour->ms.getD k 0<hi) (h2:ms.getD hour 0<hi):0<Dx ms hi a hour:=by
 unfold Dx
 cases e:((ms.take hour).drop a).map (hi- ·) with
 | nil=>show 0<hi-ms.getD hour 0;omega
 | cons x xs=>
  show 0<Db x xs
  have m:=K3 x xs
  rw [<-e] at m
  obtain⟨y,hy,e2⟩:=List.mem_map.mp m
  obtain⟨j,hj⟩:=List.getElem?_of_mem hy
  rw [List.getElem?_drop,List.getElem?_take] at hj
  split at hj
  ·rename_i lt
   have:=h1 (a+j) (by omega) lt
   have g:ms.getD (a+j) 0=y:=by rw [List.getD_eq_getElem?_getD,hj];rfl
   rw [g] at this
   have e3:hi-y=Db x xs:=e2
   omega
  ·cases hj
structure Gr (T:TM) (f:List (List Int)) (ms:List Int):Prop where
 lf:f.length=T.ds.length
 row:∀i,i<f.length->(f.getD i []).length=T.co.length
 bd:∀i b,i<f.length->b<T.co.length->0<=(f.getD i []).getD b 0/\(f.getD i []).getD b 0<=(T.cs.getD i []).getD b 0
 lm:ms.length=T.ds.length
 ms:∀k,k<ms.length->ms.getD k 0=(if k=0 then T.st else ms.getD (k-1) 0)+(f.getD k []).sum-T.ds.getD k 0
def Dy (T:TM) (f:List (List Int)) (ms:List Int) (hour a b:Nat):Prop:=(f.getD a []).getD b 0<(T.cs.getD a []).getD b 0/\0<Dx ms T.hi a hour
theorem QJ {T:TM} (fl:AL T) {f:List (List Int)}{ms:List Int} (g:Gr T f ms) {a:Nat} (ha:a<f.length) (h:∀b,b<T.co.length->¬(f.getD a []).getD b 0<(T.cs.getD a []).getD b 0):(T.cs.getD a []).sum<=(f.getD a []).sum:=by
 have lc:(T.cs.getD a []).length=T.co.length:=(fl.c _ (getD_mem (by rw [fl.ok.lc,<-g.lf];exact ha))).1
 refine Gc (by rw [lc,g.row a ha]) λi=>?_
 by_cases hi:i<T.co.length
 ·exact Int.not_lt.mp (h i hi)
 ·rw [List.getD_eq_getElem?_getD,List.getElem?_eq_none (by omega),List.getD_eq_getElem?_getD,List.getElem?_eq_none (by rw [g.row a ha];omega)]
  exact Int.le_refl _
theorem QK {T:TM} (fl:AL T) (lh:T.lo<=T.hi) (no:AK T=none) {f:List (List Int)}{ms:List Int} (g:Gr T f ms) {hour:Nat} (hh:hour<ms.length) (low:ms.getD hour 0<T.lo):∃a b,a<=hour/\b<T.co.length/\Dy T f ms hour a b:=by
 apply Classical.byContradiction
 intro none
 have all:∀a,a<=hour->(∀k,a<=k->k<hour->ms.getD k 0<T.hi)->(T.cs.getD a []).sum<=(f.getD a []).sum:=λa ha hk=>QJ fl g (by rw [g.lf,<-g.lm];omega) λb hb lt=>none ⟨a,b,ha,hb,lt,K9 hh hk (by omega)⟩
 --the last hour ahead whose main is full
 have from':∀n,n<=hour->(∀k,n<=k->k<hour->ms.getD k 0<T.hi)->∃j,j<=hour/\(∀k,j<=k->k<hour->ms.getD k 0<T.hi)/\(if j=0 then T.st else T.hi)<=(if j=0 then T.st else ms.getD (j-1) 0):=λn=>by
  induction n with
  | zero=>intro _ hk;exact⟨0,Nat.zero_le _,hk,by rw [if_pos rfl,if_pos rfl];exact Int.le_refl _⟩
  | succ n ih=>
   intro hn hk
   by_cases c:ms.getD n 0<T.hi
   ·refine ih (by omega) λk h1 h2=>?_
    by_cases e:k=n
    ·rw [e];exact c
    ·exact hk k (by omega) h2
   ·exact⟨n+1,hn,hk,by rw [if_neg (by omega),if_neg (by omega),Nat.add_sub_cancel];omega⟩
 obtain⟨j,hj,hk,hp⟩:=from' hour (Nat.le_refl _) (λk h1 h2=>by omega)
 have up:∀i,j+i<=hour->Bv T j (i+1)<=ms.getD (j+i) 0:=λi=>by
  induction i with
  | zero=>
   intro hi
   have e:=g.ms j (by omega)
   have fu:=all j hj hk
   show Bv T j 0+(T.cs.getD (j+0) []).sum-T.ds.getD (j+0) 0<=ms.getD (j+0) 0
   rw [Nat.add_zero,e]
   have t0:Bv T j 0=(if j=0 then T.st else T.hi):=rfl
   omega
  | succ i ih=>
   intro hi
   have e:=g.ms (j+(i+1)) (by omega)
   rw [if_neg (by omega),show j+(i+1)-1=j+i by omega] at e
   have fu:=all (j+(i+1)) hi λk h1 h2=>hk k (by omega) h2
   have:=ih (by omega)
   show Bv T j (i+1)+(T.cs.getD (j+(i+1)) []).sum-T.ds.getD (j+(i+1)) 0<=_
   rw [e];omega
 have top:=up (hour-j) (by omega)
 rw [show j+(hour-j)=hour by omega] at top
 have l1:hour<T.ds.length:=by rw [<-g.lm];exact hh
 have tm:=(no_str.mp no) j hour hj l1
 have te:=Ik fl.ok (f:=j) (hour+1-j) (by omega)
 rw [show hour-j+1=hour+1-j by omega] at top
 unfold Bz at tm
 have:=of_decide_eq_false tm
 unfold most Dt at this
 unfold part at this
 rw [te] at top
 omega
def Dz (ms:List Int) (a e:Nat) (m:Int):List Int:=(List.range ms.length).map λk=>if a<=k/\k<e then ms.getD k 0+m else ms.getD k 0
theorem La {ms:List Int}{a e:Nat}{m:Int}:(Dz ms a e m).length=ms.length:=by unfold Dz;rw [List.length_map,List.length_range]
theorem DA {ms:List Int}{a e:Nat}{m:Int}{k:Nat} (h:k<ms.length):(Dz ms a e m).getD k 0=if a<=k/\k<e then ms.getD k 0+m else ms.getD k 0:=by
 unfold Dz
 rw [List.getD_eq_getElem?_getD,List.getElem?_map,List.getElem?_range h]
 rfl
theorem QL {r:List Int}:∀ {k:Nat}{x:Int},k<r.length->(r.set k x).sum=r.sum+x-r.getD k 0:=by
 induction r with
 | nil=>intro k x h;exact absurd h (Nat.not_lt_zero _)
 | cons y r ih=>
  intro k x h
  cases k with
  | zero=>show x+r.sum=y+r.sum+x-y;omega
  | succ k=>
   have:=ih (k:=k) (x:=x) (Nat.lt_of_succ_lt_succ h)
   show y+(r.set k x).sum=y+r.sum+x-r.getD k 0
   omega
def Ep (f:List (List Int)) (a b:Nat) (m:Int):List (List Int):=f.set a ((f.getD a []).set b ((f.getD a []).getD b 0+m))
theorem Gr.more {T:TM}{f:List (List Int)}{ms:List Int} (g:Gr T f ms) {a b:Nat}{m:Int} (ha:a<f.length) (hb:b<T.co.length) (m0:0<=m) (m1:m<=(T.cs.getD a []).getD b 0-(f.getD a []).getD b 0):Gr T (Ep f a b m) (Dz ms a ms.length m):=by
 have lr:=g.row a ha
 have at1:∀i,(Ep f a b m).getD i []=if i=a then(f.getD a []).set b ((f.getD a []).getD b 0+m) else f.getD i []:=λi=>Gd ha
 have lfm:(Ep f a b m).length=f.length:=List.length_set
 refine⟨by rw [lfm];exact g.lf,λi hi=>?_,λi c hi hc=>?_,by rw [La];exact g.lm,λk hk=>?_⟩
 ·rw [at1];split
  ·rw [List.length_set];exact lr
  ·exact g.row i (by rw [<-lfm];exact hi)
 ·rw [at1];split
  ·rename_i e;subst e
   rw [Gd (by rw [lr];exact hb)]
   have o:=g.bd i c ha hc
   have ob:=g.bd i b ha hb
   split
   ·rename_i e;subst e;omega
   ·exact o
  ·exact g.bd i c (by rw [<-lfm];exact hi) hc
 ·rw [La] at hk
  have e:=g.ms k hk
  rw [DA hk,at1]
  have sm:((f.getD a []).set b ((f.getD a []).getD b 0+m)).sum=(f.getD a []).sum+m:=by rw [QL (by rw [lr];exact hb)];omega
  by_cases k0:k=0
  ·subst k0
   rw [if_pos rfl] at e ⊢
   by_cases a0:0=a
   ·rw [if_pos a0,sm,if_pos ⟨by omega,hk⟩,e,<-a0];omega
   ·rw [if_neg a0,if_neg (by omega),e]
  ·rw [if_neg k0] at e ⊢
   rw [DA (by omega:k-1<ms.length)]
   by_cases ka:k=a
   ·rw [if_pos ka,sm,if_pos ⟨by omega,hk⟩,if_neg (by omega),e,<-ka];omega
   ·rw [if_neg ka]
    by_cases lt:a<=k
    ·rw [if_pos ⟨lt,hk⟩,if_pos ⟨by omega,by omega⟩,e];omega
    ·rw [if_neg (by omega),if_neg (by omega),e]
end MF
end
section
namespace L2
open PySem PySem.Spec PyProof.Rows
section
variable {prog : Program} {w : World} {A : Around} {R : Result -> Shared -> Prop} {I : Addr} {fp wr : List Addr} {n : Nat} {P : Nat -> Value -> Prop} {St : Nat -> Heap -> Prop}
end
section
variable {prog : Program} {w : World} {A : Around} {E : Value -> Shared -> Prop} {s : Shared}
end
end L2
end
section
namespace MF
open PySem PySem.Spec PyProof.Rows L2
def BJ (p f cap co:Int):Int:=if co<p then(p-co) *(cap-f) else(co-p) * f
theorem QM (p f cap co:Int):co * f-p * f-C7 p (cap,co)=BJ p f cap co:=by
 unfold BJ C7
 dsimp only
 by_cases c:co<p
 ·rw [if_pos c,if_pos c,Int.mul_sub,Int.sub_mul,Int.mul_sub,Int.mul_sub,Int.mul_comm cap co,Int.mul_comm cap p];omega
 ·rw [if_neg c,if_neg c,Int.sub_mul];omega
theorem Lb {p f cap co:Int} (h0:0<=f) (h1:f<=cap):0<=BJ p f cap co:=by
 unfold BJ
 split
 ·exact Int.mul_nonneg (by omega) (by omega)
 ·exact Int.mul_nonneg (by omega) h0
theorem gapB_zero {p f cap co:Int}:BJ p f cap co=0↔(co<p->f=cap)/\(p<co->f=0):=by
 unfold BJ
 by_cases c:co<p
 ·rw [if_pos c]
  refine⟨λh=>⟨λ_=>?_,λz=>by omega⟩,λh=>by rw [h.1 c,Int.sub_self,Int.mul_zero]⟩
  rcases Int.mul_eq_zero.mp h with z | z<;>omega
 ·rw [if_neg c]
  refine⟨λh=>⟨λz=>absurd z c,λz=>?_⟩,λh=>?_⟩
  ·rcases Int.mul_eq_zero.mp h with z' | z'
   ·omega
   ·exact z'
  ·by_cases e:p<co
   ·rw [h.2 e,Int.mul_zero]
   ·have:co-p=0:=by omega
    rw [this,Int.zero_mul]
def Cf (p:Int):List Int->List Int->List Int->Int
 | f::fs,c::cs,o::os=>BJ p f c o+Cf p fs cs os
 | _,_,_=>0
def Bm:List Int->List Int->Int
 | f::fs,o::os=>o * f+Bm fs os
 | _,_=>0
theorem Ld (p:Int):∀(fs cs os:List Int),fs.length=os.length->cs.length=os.length->Bm fs os-p * fs.sum-spared cs os p=Cf p fs cs os
 | [],[],[],_,_=>by
  show(0:Int)-p * 0-0=0
  rw [Int.mul_zero];rfl
 | f::fs,c::cs,o::os,h1,h2=>by
  have ih:=Ld p fs cs os (Nat.succ.inj h1) (Nat.succ.inj h2)
  have e:=QM p f c o
  show o * f+Bm fs os-p *(f+fs.sum)-(C7 p (c,o)+spared cs os p)=BJ p f c o+Cf p fs cs os
  rw [Int.mul_add]
  omega
 | [],_::_,os,h1,h2=>by rw [<-h1] at h2;cases h2
 | _::_,[],os,h1,h2=>by rw [<-h2] at h1;cases h1
 | [],[],_::_,h1,_=>by cases h1
 | _::_,_::_,[],h1,_=>by cases h1
theorem Iw {p:Int}:∀ {fs cs os:List Int},(∀b,b<os.length->0<=fs.getD b 0/\fs.getD b 0<=cs.getD b 0)->0<=Cf p fs cs os
 | f::fs,c::cs,o::os,h=>by
  have h0:=h 0 (Nat.succ_pos _)
  have ih:=Iw (p:=p) (fs:=fs) (cs:=cs) (os:=os) λb hb=>h (b+1) (Nat.succ_lt_succ hb)
  have:=Lb (p:=p) (co:=o) h0.1 h0.2
  show 0<=BJ p f c o+Cf p fs cs os
  have e:BJ p ((f::fs).getD 0 0) ((c::cs).getD 0 0) o=BJ p f c o:=rfl
  omega
 | [],_,_,_=>Int.le_refl _
 | _::_,[],_,_=>Int.le_refl _
 | _::_,_::_,[],_=>Int.le_refl _
theorem Le {p:Int}:∀ {fs cs os:List Int},fs.length=os.length->cs.length=os.length->(∀b,b<os.length->0<=fs.getD b 0/\fs.getD b 0<=cs.getD b 0)->(Cf p fs cs os=0↔ ∀b,b<os.length->BJ p (fs.getD b 0) (cs.getD b 0) (os.getD b 0)=0)
 | [],[],[],_,_,_=>⟨λ_ b hb=>absurd hb (Nat.not_lt_zero _),λ_=>rfl⟩
 | f::fs,c::cs,o::os,l1,l2,h=>by
  have h0:=h 0 (Nat.succ_pos _)
  have h':∀b,b<os.length->0<=fs.getD b 0/\fs.getD b 0<=cs.getD b 0:=λb hb=>h (b+1) (Nat.succ_lt_succ hb)
  have ih:=Le (p:=p) (Nat.succ.inj l1) (Nat.succ.inj l2) h'
  have p1:0<=BJ p f c o:=Lb h0.1 h0.2
  have p2:=Iw (p:=p) h'
  show BJ p f c o+Cf p fs cs os=0↔_
  refine⟨λz b hb=>?_,λz=>?_⟩
  ·cases b with
   | zero=>show BJ p f c o=0;omega
   | succ b=>exact ih.mp (by omega) b (Nat.lt_of_succ_lt_succ hb)
  ·have a:=z 0 (Nat.succ_pos _)
   have a':BJ p f c o=0:=a
   have:=ih.mpr λb hb=>z (b+1) (Nat.succ_lt_succ hb)
   omega
 | [],_::_,os,h1,h2,_=>by rw [<-h1] at h2;cases h2
 | _::_,[],os,h1,h2,_=>by rw [<-h2] at h1;cases h1
 | [],[],_::_,h1,_,_=>by cases h1
 | _::_,_::_,[],h1,_,_=>by cases h1
def CB (lo hi p b m:Int):Int:=(p-b) *(m-(if b<p then lo else hi))
theorem QN (lo hi p b m:Int):(p-b) * m-Du lo hi p b=CB lo hi p b m:=by
 unfold CB Du
 rw [<-Int.mul_sub]
theorem QO {lo hi p b m:Int} (h0:lo<=m) (h1:m<=hi):0<=CB lo hi p b m:=by
 unfold CB
 split
 ·exact Int.mul_nonneg (by omega) (by omega)
 ·exact Int.mul_nonneg_of_nonpos_of_nonpos (by omega) (by omega)
theorem gapM_zero {lo hi p b m:Int}:CB lo hi p b m=0↔(p<b->m=hi)/\(b<p->m=lo):=by
 unfold CB
 by_cases c:b<p
 ·rw [if_pos c]
  refine⟨λh=>⟨λz=>by omega,λ_=>?_⟩,λh=>by rw [h.2 c,Int.sub_self,Int.mul_zero]⟩
  rcases Int.mul_eq_zero.mp h with z | z<;>omega
 ·rw [if_neg c]
  refine⟨λh=>⟨λz=>?_,λz=>absurd z c⟩,λh=>?_⟩
  ·rcases Int.mul_eq_zero.mp h with z' | z'<;>omega
  ·by_cases e:p<b
   ·rw [h.1 e,Int.sub_self,Int.mul_zero]
   ·have:p-b=0:=by omega
    rw [this,Int.zero_mul]
def DW (T:TM) (ns:List Int) (F:List (List Int)) (m bl:Nat->Int) (h:Nat):Int:=Cf (ns.getD h 0) (F.getD h []) (T.cs.getD h []) T.co+CB T.lo T.hi (ns.getD h 0) (ns.getD (h+1) 0) (m (h+1))+ns.getD h 0 * bl h
def DB (T:TM) (ns:List Int) (F:List (List Int)) (m bl:Nat->Int):Nat->Int
 | 0=>0
 | k+1=>DB T ns F m bl k+DW T ns F m bl k
def AX (T:TM) (F:List (List Int)):Nat->Int
 | 0=>0
 | k+1=>AX T F k+Bm (F.getD k []) T.co
theorem Lf {T:TM}{ns:List Int}{F:List (List Int)}{m bl:Nat->Int}{n:Nat} (lf:∀h,h<n->(F.getD h []).length=T.co.length) (lc:∀h,h<n->(T.cs.getD h []).length=T.co.length)
  (bal:∀h,h<n->m (h+1)=m h+(F.getD h []).sum-T.ds.getD h 0-bl h):∀k,k<=n->AX T F k-Dv T ns k=DB T ns F m bl k+ns.getD k 0 * m k-ns.getD 0 0 * m 0
 | 0,_=>by
  show(0:Int)-0=0+ns.getD 0 0 * m 0-ns.getD 0 0 * m 0
  omega
 | k+1,hk=>by
  have ih:=Lf lf lc bal k (by omega) (ns:=ns)
  have e1:=Ld (ns.getD k 0) (F.getD k []) (T.cs.getD k []) T.co (lf k (by omega)) (lc k (by omega))
  have e2:=QN T.lo T.hi (ns.getD k 0) (ns.getD (k+1) 0) (m (k+1))
  have b:=bal k (by omega)
  rw [P6]
  show AX T F k+Bm (F.getD k []) T.co-(Dv T ns k+Bl T k (ns.getD k 0) (ns.getD (k+1) 0))=DB T ns F m bl k+DW T ns F m bl k+ns.getD (k+1) 0 * m (k+1)-ns.getD 0 0 * m 0
  unfold Bl DW
  have b2:ns.getD k 0 * m (k+1)=ns.getD k 0 * m k+ns.getD k 0 *(F.getD k []).sum-ns.getD k 0 * T.ds.getD k 0-ns.getD k 0 * bl k:=by rw [b,Int.mul_sub,Int.mul_sub,Int.mul_add]
  rw [Int.sub_mul] at e2
  omega
theorem Lg {T:TM}{ns:List Int}{F:List (List Int)}{m bl:Nat->Int}{n:Nat} (g:∀h,h<n->0<=DW T ns F m bl h):∀k,k<=n->0<=DB T ns F m bl k
 | 0,_=>Int.le_refl _
 | k+1,hk=>by
  have:=Lg g k (by omega)
  have:=g k (by omega)
  show 0<=DB T ns F m bl k+DW T ns F m bl k
  omega
structure GoodAt (P:PL) (S:SY) (F:List (List Int)) (ns:List Int) (h:Nat):Prop where
 b:∀b,b<P.bs.length->((P.bs.getD b (0,0)).2<ns.getD h 0->(F.getD h []).getD b 0=((caps P S).getD h []).getD b 0)/\(ns.getD h 0<(P.bs.getD b (0,0)).2->(F.getD h []).getD b 0=0)
 up:ns.getD h 0<ns.getD (h+1) 0->AZ P S F (h+1)=P.hi
 dn:ns.getD (h+1) 0<ns.getD h 0->AZ P S F (h+1)=P.lo
 bl:0<ns.getD h 0->CP P.hi (A8 P S F h)=0
end MF
end
section
namespace MF
open PySem PySem.Spec PyProof.Rows L2
variable {T : TM} {ps : List Int} {h : Nat}
structure Opt (T:TM) (f:List (List Int)) (ms:List Int) (h:Nat) (ps:List Int):Prop where
 len:ps.length=T.ds.length
 as:Asked T ps
 z:∀k,h<k->ps.getD k 0=0
 b:∀k b,k<T.ds.length->b<T.co.length->(T.co.getD b 0<ps.getD k 0->(f.getD k []).getD b 0=(T.cs.getD k []).getD b 0)/\(ps.getD k 0<T.co.getD b 0->(f.getD k []).getD b 0=0)
 up:∀k,k<h->ps.getD k 0<ps.getD (k+1) 0->ms.getD k 0=T.hi
 dn:∀k,k<h->ps.getD (k+1) 0<ps.getD k 0->ms.getD k 0=T.lo
 hi:∀k,k<T.ds.length->ms.getD k 0<=T.hi
 mon:∀k,h<=k->k+1<T.ds.length->ms.getD (k+1) 0<=ms.getD k 0
theorem Lh {l:List Int}{k:Nat} (h:l.length<=k):l.getD k 0=0:=by rw [List.getD_eq_getElem?_getD,List.getElem?_eq_none h];rfl
theorem Asked.pos (fl:AL T) {ps:List Int} (a:Asked T ps) (k:Nat):0<=ps.getD k 0:=by
 by_cases h:k<ps.length
 ·rcases List.mem_cons.mp (a _ (getD_mem (d:=0) h)) with e | e
  ·omega
  ·have:=fl.o1 _ e;omega
 ·rw [Lh (by omega)];exact Int.le_refl _
theorem Ix (ms:List Int) (hi:Int):∀h,∃r,r<=h/\(∀j,r<=j->j<h->ms.getD j 0<hi)/\(r=0\/hi<=ms.getD (r-1) 0)
 | 0=>⟨0,Nat.le_refl _,λj _ hj=>absurd hj (Nat.not_lt_zero _),.inl rfl⟩
 | h+1=>by
  by_cases c:ms.getD h 0<hi
  ·obtain⟨r,h1,h2,h3⟩:=Ix ms hi h
   refine⟨r,by omega,λj a b=>?_,h3⟩
   by_cases e:j=h
   ·subst e;exact c
   ·exact h2 j a (by omega)
  ·exact⟨h+1,Nat.le_refl _,λj a b=>by omega,.inr (by rw [Nat.add_sub_cancel];omega)⟩
theorem Li {ms:List Int}{hi:Int}{a h j:Nat} (hh:h<=ms.length) (h1:a<=j) (h2:j<h):Dx ms hi a h<=hi-ms.getD j 0:=by
 have m:hi-ms.getD j 0∈((ms.take h).drop a).map (hi- ·):=by
  refine List.mem_map.mpr ⟨ms.getD j 0,?_,rfl⟩
  refine List.mem_of_getElem? (i:=j-a) ?_
  rw [List.getElem?_drop,show a+(j-a)=j by omega,List.getElem?_take,if_pos h2,List.getD_eq_getElem?_getD,List.getElem?_eq_getElem (by omega)];rfl
 unfold Dx
 cases e:((ms.take h).drop a).map (hi- ·) with
 | nil=>rw [e] at m;cases m
 | cons x xs=>rw [e] at m;exact K4 x xs _ m
theorem Opt.next (fl:AL T) {f:List (List Int)}{ms:List Int}{h:Nat}{ps:List Int} (o:Opt T f ms h ps) (l1:T.lo<=ms.getD h 0) (l2:0<ps.getD h 0->ms.getD h 0<=T.lo):Opt T f ms (h+1) ps:=by
 have z1:=o.z (h+1) (by omega)
 refine⟨o.len,o.as,λk hk=>o.z k (by omega),o.b,λk hk c=>?_,λk hk c=>?_,o.hi,λk hk=>o.mon k (by omega)⟩
 ·by_cases e:k=h
  ·subst e
   have:=o.as.pos fl k
   omega
  ·exact o.up k (by omega) c
 ·by_cases e:k=h
  ·subst e
   have:=l2 (by omega)
   omega
  ·exact o.dn k (by omega) c
def DX (ps:List Int) (r h:Nat) (c:Int):List Int:=(List.range ps.length).map λk=>if r<=k/\k<=h then max (ps.getD k 0) c else ps.getD k 0
theorem Lj {r:Nat}{c:Int}:(DX ps r h c).length=ps.length:=by unfold DX;rw [List.length_map,List.length_range]
theorem QP {r:Nat}{c:Int}{k:Nat} (hk:k<ps.length):(DX ps r h c).getD k 0=if r<=k/\k<=h then max (ps.getD k 0) c else ps.getD k 0:=by
 unfold DX
 rw [List.getD_eq_getElem?_getD,List.getElem?_map,List.getElem?_range hk];rfl
theorem Opt.step (fl:AL T) (lh:T.lo<=T.hi) {f:List (List Int)}{ms:List Int}{h:Nat}{ps:List Int} (o:Opt T f ms h ps) (g:Gr T f ms) (hh:h<T.ds.length) {a b:Nat}{m:Int} (ha:a<=h) (hb:b<T.co.length) (may:Dy T f ms h a b)
  (best:∀a' b',a'<=h->b'<T.co.length->Dy T f ms h a' b'->T.co.getD b 0<=T.co.getD b' 0) (m0:0<m) (m1:m<=T.lo-ms.getD h 0) (m2:m<=(T.cs.getD a []).getD b 0-(f.getD a []).getD b 0) (m3:m<=Dx ms T.hi a h):
  ∃ps',Opt T (Ep f a b m) (Dz ms a ms.length m) h ps':=by
 have lm:=g.lm
 have lf:=g.lf
 have lo:=o.len
 obtain⟨r,rh,rin,rout⟩:=Ix ms T.hi h
 --the hour that makes more is among those that Ix the hour
 have ra:r<=a:=by
  rcases rout with e | e
  ·omega
  ·refine Nat.not_lt.mp λlt=>?_
   have:=Li (ms:=ms) (hi:=T.hi) (a:=a) (h:=h) (j:=r-1) (by omega) (by omega) (by omega)
   omega
 have c0:1<=T.co.getD b 0:=(fl.o1 _ (getD_mem hb)).1
 --prices fall among them
 have fall1:∀k,r<=k->k<h->ps.getD (k+1) 0<=ps.getD k 0:=λk h1 h2=>by
  refine Int.not_lt.mp λlt=>?_
  have:=o.up k h2 lt
  have:=rin k h1 h2
  omega
 have fall:∀d k,r<=k->k+d<=h->ps.getD (k+d) 0<=ps.getD k 0:=λd=>by
  induction d with
  | zero=>intro k _ _;exact Int.le_refl _
  | succ d ih=>
   intro k h1 h2
   have:=ih k h1 (by omega)
   have:=fall1 (k+d) (by omega) (by omega)
   rw [<-Nat.add_assoc];omega
 have pa:ps.getD a 0<=T.co.getD b 0:=by
  refine Int.not_lt.mp λlt=>?_
  have:=(o.b a b (by omega) hb).1 lt
  have:=may.1
  omega
 have pk:∀k,a<=k->k<=h->ps.getD k 0<=T.co.getD b 0:=λk h1 h2=>by
  have:=fall (k-a) a ra (by omega)
  rw [show a+(k-a)=k by omega] at this
  omega
 have at1:∀i,(Ep f a b m).getD i []=if i=a then(f.getD a []).set b ((f.getD a []).getD b 0+m) else f.getD i []:=λi=>Gd (by omega)
 have fsame:∀k c,(k≠a\/c≠b)->((Ep f a b m).getD k []).getD c 0=(f.getD k []).getD c 0:=λk c hn=>by
  rw [at1]
  split
  ·rename_i e
   subst e
   rw [Gd (by rw [g.row k (by omega)];exact hb),if_neg (by
    intro z
    rcases hn with hn | hn
    ·exact hn rfl
    ·exact hn z)]
  ·rfl
 have msame:∀k,k<a->(Dz ms a ms.length m).getD k 0=ms.getD k 0:=λk hk=>by
  rw [DA (by omega),if_neg (by omega)]
 have q:∀k,k<T.ds.length->(DX ps r h (T.co.getD b 0)).getD k 0=if r<=k/\k<=h then max (ps.getD k 0) (T.co.getD b 0) else ps.getD k 0:=λk hk=>QP (by omega)
 refine⟨DX ps r h (T.co.getD b 0),by rw [Lj];exact lo,λx hx=>?_,λk hk=>?_,λk b' hk hb'=>?_,λk hk c=>?_,λk hk c=>?_,λk hk=>?_,λk hk hk2=>?_⟩
 ·unfold DX at hx
  obtain⟨k,hk,rfl⟩:=List.mem_map.mp hx
  have hk':=List.mem_range.mp hk
  have a1:=o.as _ (getD_mem (l:=ps) (d:=0) hk')
  have a2:T.co.getD b 0∈0::T.co:=List.mem_cons_of_mem _ (getD_mem hb)
  split
  ·rcases Int.le_total (ps.getD k 0) (T.co.getD b 0) with z | z
   ·rw [Int.max_eq_right z];exact a2
   ·rw [Int.max_eq_left z];exact a1
  ·exact a1
 ·by_cases e:k<T.ds.length
  ·rw [q k e,if_neg (by omega)];exact o.z k hk
  ·exact Lh (by rw [Lj];omega)
 ·have ob:=o.b k b' hk hb'
  rw [q k hk]
  by_cases inr:r<=k/\k<=h
  ·rw [if_pos inr]
   refine⟨λlt=>?_,λlt=>?_⟩
   ·have ne:k≠a\/b'≠b:=by
     by_cases e1:k=a
     ·by_cases e2:b'=b
      ·subst e1 e2;omega
      ·exact .inr e2
     ·exact .inl e1
    rw [fsame k b' ne]
    by_cases c:T.co.getD b' 0<ps.getD k 0
    ·exact ob.1 c
    ·have lt2:T.co.getD b' 0<T.co.getD b 0:=by omega
     have bd:=g.bd k b' (by omega) hb'
     have nm:¬Dy T f ms h k b':=λmm=>by
      have:=best k b' inr.2 hb' mm
      omega
     have rp:0<Dx ms T.hi k h:=K9 (by omega) (λj j1 j2=>rin j (by omega) j2) (by omega)
     have:¬(f.getD k []).getD b' 0<(T.cs.getD k []).getD b' 0:=λz=>nm ⟨z,rp⟩
     omega
   ·have ne:k≠a\/b'≠b:=by
     by_cases e2:b'=b
     ·subst e2;omega
     ·exact .inr e2
    rw [fsame k b' ne]
    exact ob.2 (by omega)
  ·rw [if_neg inr]
   rw [fsame k b' (.inl (by omega))]
   exact ob
 ·rw [q k (by omega),q (k+1) (by omega)] at c
  by_cases k1:r<=k
  ·rw [if_pos ⟨k1,by omega⟩,if_pos ⟨by omega,by omega⟩] at c
   have:=fall1 k k1 hk
   omega
  ·rw [msame k (by omega)]
   rw [if_neg (by omega)] at c
   by_cases k2:r<=k+1
   ·have er:r-1=k:=by omega
    rcases rout with e | e
    ·omega
    ·rw [er] at e
     have:=o.hi k (by omega)
     omega
   ·rw [if_neg (by omega)] at c
    exact o.up k hk c
 ·rw [q k (by omega),q (k+1) (by omega)] at c
  by_cases k1:r<=k
  ·rw [if_pos (show r<=k+1/\k+1<=h by omega),if_pos (show r<=k/\k<=h by omega)] at c
   have lt:k<a:=Nat.not_le.mp λz=>by
    have:=pk k z (by omega)
    omega
   rw [msame k lt]
   exact o.dn k hk (by omega)
  ·rw [msame k (by omega)]
   rw [if_neg (show ¬(r<=k/\k<=h) by omega)] at c
   by_cases k2:r<=k+1
   ·rw [if_pos ⟨k2,by omega⟩] at c
    exact o.dn k hk (by omega)
   ·rw [if_neg (by omega)] at c
    exact o.dn k hk c
 ·rw [DA (by omega)]
  split
  ·rename_i hc
   by_cases e:k<h
   ·have:=Li (ms:=ms) (hi:=T.hi) (a:=a) (h:=h) (j:=k) (by omega) hc.1 e
    omega
   ·have mono:∀d,h+d<T.ds.length->ms.getD (h+d) 0<=ms.getD h 0:=λd=>by
     induction d with
     | zero=>intro _;exact Int.le_refl _
     | succ d ih=>
      intro hd
      have:=ih (by omega)
      have:=o.mon (h+d) (by omega) (by omega)
      rw [<-Nat.add_assoc];omega
    have:=mono (k-h) (by omega)
    rw [show h+(k-h)=k by omega] at this
    omega
  ·exact o.hi k hk
 ·rw [DA (by omega),DA (by omega),if_pos ⟨by omega,by omega⟩,if_pos ⟨by omega,by omega⟩]
  have:=o.mon k hk hk2
  omega
end MF
end
section
namespace MF
open PySem PySem.Spec PyProof.Rows L2
variable {t amt : List (Int × Int)} {j v : Int} {L : Int × Int -> Prop} {i : Nat} {a : Int × Int}
def AQ (t:List (Int×Int)) (k:Int):Option Int:=(t.find? λq=>decide (q.1=k)).map (·.2)
def B7 (t:List (Int×Int)) (k v:Int):List (Int×Int):=if (t.any λq=>decide (q.1=k))=true then t.map (λq=>if q.1=k then(q.1,v) else q) else t++[(k,v)]
def Ge (t:List (Int×Int)) (k v:Int):List (Int×Int):=B7 t k (min v ((AQ t k).getD v))
theorem Cg {p:Int×Int}{r:List (Int×Int)}{k:Int} (e:p.1=k):AQ (p::r) k=some p.2:=by simp [AQ,List.find?_cons,e]
theorem CC {p:Int×Int}{r:List (Int×Int)}{k:Int} (e:¬p.1=k):AQ (p::r) k=AQ r k:=by simp [AQ,List.find?_cons,e]
theorem DY {k w:Int}:AQ t k=some w->(k,w)∈t:=by
 induction t with
 | nil=>intro h;cases h
 | cons p r ih=>
  intro h
  by_cases e:p.1=k
  ·rw [Cg e] at h;cases h;rw [<-e];exact List.mem_cons_self
  ·rw [CC e] at h;exact List.mem_cons_of_mem _ (ih h)
theorem Lk {k:Int}:(t.any λq=>decide (q.1=k))=(AQ t k).isSome:=by
 induction t with
 | nil=>rfl
 | cons p r ih=>
  rw [List.any_cons]
  by_cases e:p.1=k
  ·rw [Cg e,decide_eq_true e];rfl
  ·rw [CC e,decide_eq_false e,Bool.false_or];exact ih
theorem QQ {k:Int}:AQ (t.map λq=>if q.1=k then(q.1,v) else q) j=(AQ t j).map λx=>if j=k then v else x:=by
 induction t with
 | nil=>rfl
 | cons p r ih=>
  rw [List.map_cons]
  by_cases h:p.1=k
  ·rw [if_pos h]
   by_cases e:p.1=j
   ·rw [Cg (p:=(p.1,v)) e,Cg e,Option.map_some,if_pos (e.symm.trans h)]
   ·rw [CC (p:=(p.1,v)) e,CC e,ih]
  ·rw [if_neg h]
   by_cases e:p.1=j
   ·rw [Cg (p:=p) e,Cg e,Option.map_some,if_neg (λz=>h (e.trans z))]
   ·rw [CC (p:=p) e,CC e,ih]
theorem Iy {k:Int}:AQ t k=none->AQ (t++[(k,v)]) j=if j=k then some v else AQ t j:=by
 induction t with
 | nil=>
  intro _
  by_cases e:k=j
  ·rw [if_pos e.symm];exact Cg (p:=(k,v)) e
  ·rw [if_neg (λz=>e z.symm)];exact CC (p:=(k,v)) e
 | cons p r ih=>
  intro hn
  rw [List.cons_append]
  have hk:¬p.1=k:=λz=>by rw [Cg z] at hn;cases hn
  rw [CC hk] at hn
  by_cases e:p.1=j
  ·rw [Cg e,Cg e,if_neg (λz=>hk (e.trans z))]
  ·rw [CC e,CC e,ih hn]
theorem QR {k:Int}:AQ (B7 t k v) j=if j=k then some v else AQ t j:=by
 unfold B7
 by_cases a:(t.any λq=>decide (q.1=k))=true
 ·rw [if_pos a,QQ]
  rw [Lk] at a
  by_cases e:j=k
  ·obtain⟨x,hx⟩:=Option.isSome_iff_exists.mp a
   rw [if_pos e,e,hx,Option.map_some,if_pos rfl]
  ·rw [if_neg e]
   cases AQ t j with
   | none=>rfl
   | some x=>rw [Option.map_some,if_neg e]
 ·rw [if_neg a]
  refine Iy ?_
  rw [Lk] at a
  cases q:AQ t k with
  | none=>rfl
  | some x=>rw [q] at a;exact(a rfl).elim
theorem QS {k:Int}:(B7 t k v).map (·.1)=if (t.any λq=>decide (q.1=k))=true then t.map (·.1) else t.map (·.1)++[k]:=by
 unfold B7
 by_cases a:(t.any λq=>decide (q.1=k))=true
 ·rw [if_pos a,if_pos a,List.map_map]
  refine List.map_congr_left λq _=>?_
  show(if q.1=k then(q.1,v) else q).1=q.1
  split<;>rfl
 ·rw [if_neg a,if_neg a,List.map_append];rfl
theorem QT {k:Int}{q:Int×Int} (h:q∈B7 t k v):q=(k,v)\/q∈t:=by
 unfold B7 at h
 split at h
 ·obtain⟨p,hp,e⟩:=List.mem_map.mp h
  split at e
  ·rename_i z;rw [<-e,z];exact .inl rfl
  ·rw [<-e];exact .inr hp
 ·rcases List.mem_append.mp h with h | h
  ·exact .inr h
  ·exact .inl (List.mem_singleton.mp h)
structure Mn (L:Int×Int->Prop) (t:List (Int×Int)):Prop where
 snd:∀q∈t,L q
 cmp:∀q,L q->∃w,AQ t q.1=some w/\w<=q.2
 nd:(t.map (·.1)).Nodup
theorem Mn.nil (h:∀q,¬L q):Mn L []:=⟨λq z=>(by cases z),λq z=>(h q z).elim,List.nodup_nil⟩
theorem Mn.one {k:Int} (h:∀q,L q↔q=(k,v)):Mn L [(k,v)]:=⟨λq z=>(h q).mpr (List.mem_singleton.mp z),λq z=>by rw [(h q).mp z];exact⟨v,Cg rfl,Int.le_refl _⟩,by simp⟩
theorem Mn.congr {L':Int×Int->Prop} (m:Mn L t) (h:∀q,L q↔L' q):Mn L' t:=⟨λq z=>(h q).mp (m.snd q z),λq z=>m.cmp q ((h q).mpr z),m.nd⟩
theorem Mn.put (m:Mn L t) (k v:Int):Mn (λq=>L q\/q=(k,v)) (Ge t k v):=by
 unfold Ge
 have hy:L (k,min v ((AQ t k).getD v))\/min v ((AQ t k).getD v)=v:=by
  cases e:AQ t k with
  | none=>exact .inr (by show min v v=v;omega)
  | some x=>
   show L (k,min v x)\/min v x=v
   by_cases c:v<=x
   ·exact .inr (by omega)
   ·rw [show min v x=x by omega];exact .inl (m.snd _ (DY e))
 refine⟨λq hq=>?_,λq hq=>?_,?_⟩
 ·rcases QT hq with e | h
  ·rw [e]
   rcases hy with h | h
   ·exact .inl h
   ·rw [h];exact .inr rfl
  ·exact .inl (m.snd q h)
 ·rw [QR]
  by_cases e:q.1=k
  ·rw [if_pos e]
   refine⟨_,rfl,?_⟩
   rcases hq with h | h
   ·obtain⟨w,hw,le⟩:=m.cmp q h
    rw [<-e,hw];show min v w<=q.2;omega
   ·rw [h];show min v _<=v;omega
  ·rw [if_neg e]
   rcases hq with h | h
   ·exact m.cmp q h
   ·rw [h] at e;exact(e rfl).elim
 ·rw [QS]
  split
  ·exact m.nd
  ·rename_i a
   refine List.nodup_append.mpr ⟨m.nd,by simp,λx hx y hy e=>?_⟩
   rw [List.mem_singleton.mp hy] at e
   subst e
   obtain⟨q,hq,rfl⟩:=List.mem_map.mp hx
   exact a (List.any_eq_true.mpr ⟨q,hq,decide_eq_true rfl⟩)
theorem Ll:∀(B:Nat) (l:List Int),l.Nodup->(∀x∈l,0<=x/\x<B)->l.length<=B
 | 0,l,_,h=>by
  cases l with
  | nil=>exact Nat.le_refl _
  | cons x _=>have:=h x List.mem_cons_self;omega
 | B+1,l,nd,h=>by
  have ih:=Ll B (l.filter λx=>decide (x≠B)) (nd.filter _) λx hx=>by
   have a:=h x (List.mem_filter.mp hx).1
   have b:=of_decide_eq_true (List.mem_filter.mp hx).2
   omega
  have one:∀l:List Int,l.Nodup->l.length<=(l.filter λx=>decide (x≠(B:Int))).length+1:=by
   intro l
   induction l with
   | nil=>intro _;exact Nat.zero_le _
   | cons x r ihr=>
    intro nd
    obtain⟨n1,n2⟩:=List.nodup_cons.mp nd
    by_cases e:x=B
    ·have:r.filter (λx=>decide (x≠(B:Int)))=r:=List.filter_eq_self.mpr λy hy=>decide_eq_true λz=>n1 (by rw [e,<-z];exact hy)
     rw [List.filter_cons_of_neg (by simpa using e),this];exact Nat.le_refl _
    ·rw [List.filter_cons_of_pos (by simpa using e)]
     have:=ihr n2
     simp only [List.length_cons];omega
  have:=one l nd
  omega
theorem Mn.len (m:Mn L t) (b:∀q,L q->0<=q.1/\q.1<=100):t.length<=101:=by
 have:=Ll 101 (t.map (·.1)) m.nd λx hx=>by
  obtain⟨q,hq,rfl⟩:=List.mem_map.mp hx
  have:=b q (m.snd q hq);show 0<=q.1/\q.1<101;omega
 rwa [List.length_map] at this
def Att (cs os:List Int) (k:Nat) (q:Int×Int):Prop:=∃r:List Int,r.length=k/\(∀b,b<k->0<=r.getD b 0/\r.getD b 0<=cs.getD b 0)/\q=(r.sum,Bm r (os.take k))
def LsL (lo hi d:Int) (got amt:List (Int×Int)) (i j:Nat) (q:Int×Int):Prop:=∃(i' j':Nat) (g a:Int×Int),got[i']? =some g/\amt[j']? =some a/\lo<=min hi (g.1+a.1-d)/\q=(min hi (g.1+a.1-d),g.2+a.2)/\(i'<i\/i'=i/\j'<j)
theorem LsL.zero {lo hi d:Int}{got:List (Int×Int)} (q:Int×Int):¬LsL lo hi d got amt 0 0 q:=fun⟨_,_,_,_,_,_,_,_,h⟩=>by omega
theorem LsL.step {lo hi d:Int}{got:List (Int×Int)}{j:Nat}{g:Int×Int} (hg:got[i]? =some g) (ha:amt[j]? =some a) (le:lo<=min hi (g.1+a.1-d)) (q:Int×Int):LsL lo hi d got amt i j q\/q=(min hi (g.1+a.1-d),g.2+a.2) ↔LsL lo hi d got amt i (j+1) q:=by
 constructor
 ·rintro(⟨i',j',g',a',h1,h2,h3,h4,h5⟩ | h)
  ·exact⟨i',j',g',a',h1,h2,h3,h4,by omega⟩
  ·exact⟨i,j,g,a,hg,ha,le,h,by omega⟩
 ·rintro⟨i',j',g',a',h1,h2,h3,h4,h5⟩
  by_cases c:i'=i/\j'=j
  ·obtain⟨rfl,rfl⟩:=c
   rw [hg] at h1;cases h1
   rw [ha] at h2;cases h2
   exact .inr h4
  ·exact .inl ⟨i',j',g',a',h1,h2,h3,h4,by omega⟩
theorem LsL.skip {lo hi d:Int}{got:List (Int×Int)}{j:Nat}{g:Int×Int} (hg:got[i]? =some g) (ha:amt[j]? =some a) (le:¬lo<=min hi (g.1+a.1-d)) (q:Int×Int):LsL lo hi d got amt i j q↔LsL lo hi d got amt i (j+1) q:=by
 constructor
 ·rintro⟨i',j',g',a',h1,h2,h3,h4,h5⟩
  exact⟨i',j',g',a',h1,h2,h3,h4,by omega⟩
 ·rintro⟨i',j',g',a',h1,h2,h3,h4,h5⟩
  by_cases c:i'=i/\j'=j
  ·obtain⟨rfl,rfl⟩:=c
   rw [hg] at h1;cases h1
   rw [ha] at h2;cases h2
   exact(le h3).elim
  ·exact⟨i',j',g',a',h1,h2,h3,h4,by omega⟩
theorem LsL.turn {lo hi d:Int}{got:List (Int×Int)} (q:Int×Int):LsL lo hi d got amt i amt.length q↔LsL lo hi d got amt (i+1) 0 q:=by
 constructor
 ·rintro⟨i',j',g,a,h1,h2,h3,h4,h5⟩
  exact⟨i',j',g,a,h1,h2,h3,h4,by omega⟩
 ·rintro⟨i',j',g,a,h1,h2,h3,h4,h5⟩
  have:=(List.getElem?_eq_some_iff.mp h2).1
  exact⟨i',j',g,a,h1,h2,h3,h4,by omega⟩
theorem QU {F:List (List Int)}{j:Nat}{r:List Int} (h:j≠i):BX (F.set i r) j=BX F j:=by
 unfold BX;rw [List.getD_eq_getElem?_getD,List.getD_eq_getElem?_getD,List.getElem?_set_ne (λz=>h z.symm)]
theorem QV {P:PL}{S:SY}{F:List (List Int)}{i:Nat}{r:List Int}:∀j,j<=i->AZ P S (F.set i r) j=AZ P S F j
 | 0,_=>rfl
 | j+1,h=>by
  have ih:=QV j (by omega) (P:=P) (S:=S) (F:=F) (i:=i) (r:=r)
  rw [C4,C4]
  have:A8 P S (F.set i r) j=A8 P S F j:=by unfold A8;rw [ih,QU (by omega)]
  rw [this]
theorem Lm {T:TM}{F:List (List Int)}{i:Nat}{r:List Int}:∀j,j<=i->AX T (F.set i r) j=AX T F j
 | 0,_=>rfl
 | j+1,h=>by
  have ih:=Lm j (by omega) (T:=T) (F:=F) (i:=i) (r:=r)
  show AX T (F.set i r) j+Bm ((F.set i r).getD j []) T.co=AX T F j+Bm (F.getD j []) T.co
  rw [ih,List.getD_eq_getElem?_getD,List.getElem?_set_ne (by omega),<-List.getD_eq_getElem?_getD]
end MF
end
section
namespace L2
open PySem PySem.Spec PyProof.Rows
variable {xs : List (List Ar × Addr × Value)} {H' : Hp} {h' : Heap} {trs : List (TE × TE)}
section
variable {κ : Type} [DecidableEq κ]
def BK (kvs:List (κ×V)) (k:κ):Option V:=(kvs.find? λkv=>decide (kv.1=k)).map (·.2)
def BA (kvs:List (κ×V)) (k:κ) (v:V):List (κ×V):=
 if (kvs.any λkv=>decide (kv.1=k))=true then kvs.map (λkv=>if kv.1=k then(kv.1,v) else kv) else kvs++[(k,v)]
theorem Gf {p:κ×V}{r:List (κ×V)}{k:κ} (e:p.1=k):BK (p::r) k=some p.2:=by simp [BK,List.find?_cons,e]
theorem Gg {p:κ×V}{r:List (κ×V)}{k:κ} (e:¬p.1=k):BK (p::r) k=BK r k:=by simp [BK,List.find?_cons,e]
theorem Lo (k:κ):∀kvs:List (κ×V),(kvs.any λkv=>decide (kv.1=k))=(BK kvs k).isSome
 | []=>rfl
 | p::r=>by
  rw [List.any_cons]
  by_cases e:p.1=k
  ·simp only [Gf e,decide_eq_true e,Bool.true_or,Option.isSome_some]
  ·rw [Gg e,decide_eq_false e,Bool.false_or];exact Lo k r
theorem Iz (kvs:List (κ×V)) (k:κ) (v:V):(BA kvs k v).length<=kvs.length+1:=by
 unfold BA
 split
 ·rw [List.length_map];omega
 ·rw [List.length_append,List.length_cons,List.length_nil];omega
theorem RelO.isSome_eq {o:Option V}{u:Option Value} (r:RelO o u):o.isSome=u.isSome:=by
 cases o with
 | none=>cases u with
  | none=>rfl
  | some _=>exact(show False from r).elim
 | some _=>cases u with
  | none=>exact(show False from r).elim
  | some _=>rfl
theorem RelO.getD {o:Option V}{u:Option Value}{d:V}{d':Value} (r:RelO o u) (rd:Av d d'):Av (o.getD d) (u.getD d'):=by
 cases o with
 | none=>cases u with
  | none=>exact rd
  | some _=>exact(show False from r).elim
 | some _=>cases u with
  | none=>exact(show False from r).elim
  | some _=>exact r
theorem KV.val {kvs:List (κ×V)}{vs:List (κ×Value)} (r:KV kvs vs) (k:κ):RelO (BK kvs k) (valueAt vs k):=by
 unfold KV at r
 induction r with
 | nil=>exact True.intro
 | @cons p q ps qs h t ih=>
  obtain⟨h1,h2⟩:=h
  by_cases e:p.1=k
  ·have e':q.1=k:=h1.symm.trans e
   have b:valueAt (q::qs) k=some q.2:=by simp [valueAt,List.find?_cons,e']
   rw [Gf e,b];exact h2
  ·have e':¬q.1=k:=λz=>e (h1.trans z)
   have b:valueAt (q::qs) k=valueAt qs k:=by simp [valueAt,List.find?_cons,e']
   rw [Gg e,b];exact ih
theorem KV.any {kvs:List (κ×V)}{vs:List (κ×Value)} (r:KV kvs vs) (k:κ):(kvs.any λkv=>decide (kv.1=k))=vs.any λkv=>decide (kv.1=k):=by
 unfold KV at r
 induction r with
 | nil=>rfl
 | cons h t ih=>rw [List.any_cons,List.any_cons,ih,h.1]
theorem KV.repl {kvs:List (κ×V)}{vs:List (κ×Value)} (r:KV kvs vs) (k:κ) {y:V}{u:Value} (ry:Av y u):
  KV (kvs.map λkv=>if kv.1=k then(kv.1,y) else kv) (vs.map λkv=>if kv.1=k then(kv.1,u) else kv):=by
 unfold KV at r ⊢
 induction r with
 | nil=>exact .nil
 | @cons p q ps qs h t ih=>
  rw [List.map_cons,List.map_cons]
  refine .cons ?_ ih
  obtain⟨h1,h2⟩:=h
  by_cases e:p.1=k
  ·rw [if_pos e,if_pos (h1.symm.trans e)];exact⟨h1,ry⟩
  ·rw [if_neg e,if_neg (λz=>e (h1.trans z))];exact⟨h1,h2⟩
theorem KV.putX {kvs:List (κ×V)}{vs:List (κ×Value)} (r:KV kvs vs) (k:κ) {y:V}{u:Value} (ry:Av y u):KV (BA kvs k y) (stored vs k u):=by
 unfold BA stored
 rw [r.any k]
 by_cases e:(vs.any λkv=>decide (kv.1=k))=true
 ·rw [if_pos e,if_pos e];exact r.repl k ry
 ·rw [if_neg e,if_neg e];exact Paired.snoc r ⟨rfl,ry⟩
theorem KV.length {kvs:List (κ×V)}{vs:List (κ×Value)} (r:KV kvs vs):kvs.length=vs.length:=Paired.length r
end
theorem Gh {P:Program}{w:World}{k:Ar}{u:Value} (r:Av (kV k) u):(AR P w).is k u=true:=by
 cases k with
 | inl i=>obtain⟨t,e⟩:=(show ∃t,u=Value.int i t from r);subst e;exact Hm P w i t
 | inr x=>obtain⟨t,e⟩:=(show ∃t,u=Value.str x t from r);subst e;exact Jd P w x t
theorem Lp {P:Program}{w:World}:∀ {ks:List Ar}{us:List Value},Au (ks.map kV) us->ItemsAre (AR P w) ks us
 | [],_,r=>by rw [List.map_nil] at r;cases r;exact .nil
 | k::ks,_,r=>by
  rw [List.map_cons] at r
  cases r with
  | cons h t=>exact .cons (Gh h) (Lp t)
abbrev KT (H:Hp):List (List Ar×V)->List (List Ar×Addr×Value)->Prop:=Paired λp q=>p.1=q.1/\H q.2.1=some (.tup (p.1.map kV))/\Av p.2 q.2.2
theorem KT.val {H:Hp}{kvs:List (List Ar×V)} (r:KT H kvs xs) (k:List Ar):RelO (BK kvs k) ((atKey xs k).map (·.2)):=by
 induction r with
 | nil=>exact True.intro
 | @cons p q ps qs h t ih=>
  obtain⟨h1,_,h2⟩:=h
  by_cases e:p.1=k
  ·have e':q.1=k:=h1.symm.trans e
   have b:atKey (q::qs) k=some q.2:=by simp [atKey,List.find?_cons,e']
   rw [Gf e,b];exact h2
  ·have e':¬q.1=k:=λz=>e (h1.trans z)
   have b:atKey (q::qs) k=atKey qs k:=by simp [atKey,List.find?_cons,e']
   rw [Gg e,b];exact ih
theorem KT.repl {H:Hp}{kvs:List (List Ar×V)} (r:KT H kvs xs) (k:List Ar) {y:V}{u:Value} (ry:Av y u):
  KT H (kvs.map λkv=>if kv.1=k then(kv.1,y) else kv) (xs.map (putAt k u)):=by
 induction r with
 | nil=>exact .nil
 | @cons p q ps qs h t ih=>
  rw [List.map_cons,List.map_cons]
  refine .cons ?_ ih
  obtain⟨h1,h2,h3⟩:=h
  unfold putAt
  by_cases e:p.1=k
  ·rw [if_pos e,if_pos (h1.symm.trans e)];exact⟨h1,h2,ry⟩
  ·rw [if_neg e,if_neg (λz=>e (h1.trans z))];exact⟨h1,h2,h3⟩
theorem KT.put {H:Hp}{kvs:List (List Ar×V)} (r:KT H kvs xs) (k:List Ar) {b:Addr}{y:V}{u:Value} (hb:H b=some (.tup (k.map kV))) (ry:Av y u):
  KT H (BA kvs k y) (storedH xs k b u):=by
 have e:(kvs.any λkv=>decide (kv.1=k))=(atKey xs k).isSome:=by
  rw [Lo,(r.val k).isSome_eq,Option.isSome_map]
 unfold BA storedH
 rw [e]
 by_cases q:(atKey xs k).isSome=true
 ·rw [if_pos q,if_pos q];exact r.repl k ry
 ·rw [if_neg q,if_neg q];exact Paired.snoc r ⟨rfl,hb,ry⟩
theorem KT.keeps {H:Hp}{kvs:List (List Ar×V)} (r:KT H kvs xs) (ht:∀b ys,H b=some (.tup ys)->H' b=some (.tup ys)):KT H' kvs xs:=
 Paired.mapP r λ_ _ z=>⟨z.1,ht _ _ z.2.1,z.2.2⟩
section
variable {P : Program} {w : World} {H : Hp} {h : Heap} {a : Addr}
theorem Lq {u:HO} (ok:HOk P w H h) (e:Rd H a u):ObjOk P w H h a u:=e.ok ok
theorem IA {kvs:List (Ar×V)} (ok:HOk P w H h) (e:Rd H a (.dK kvs)):kvs.length<=sizeLine/\(a==sysModules)=false/\∃vs,KV kvs vs/\h.DictOf (AR P w) a vs:=
 show ObjOk P w H h a (.dK kvs) from Lq ok e
theorem Lr {kvs:List (Ar×V)} (ok:HOk P w H h) (e:H a=some (.dK kvs)):kvs.length<=sizeLine/\(a==sysModules)=false/\∃vs,KV kvs vs/\h.DictOf (AR P w) a vs:=IA ok (.inl e)
theorem IB {ks:List Ar} (ok:HOk P w H h) (e:H a=some (.tup (ks.map kV))):(tupleKind (AR P w)).is h ks a:=by
 obtain⟨_,its,r,o,h1,h2,n,h3⟩:=(show ObjOk P w H h a (.tup (ks.map kV)) from ok a _ e)
 exact⟨o,its.toArray,n,h1,h2,h3,by simpa using Lp r⟩
theorem IC {kvs:List (List Ar×V)} (ok:HOk P w H h) (e:Rd H a (.dT kvs)):kvs.length<=sizeLine/\(a==sysModules)=false/\
  ∃xs,KT H kvs xs/\h.DictOfH (tupleKind (AR P w)) a xs:=by
 obtain⟨z,y,xs,r,o,es,ep,h1,h2,h3,h4,h5⟩:=(show ObjOk P w H h a (.dT kvs) from Lq ok e)
 refine⟨z,y,xs,r,o,es,ep,h1,h2,h3,h4,λx hx=>?_,h5⟩
 have all:∀ {l:List (List Ar×V)}{m:List (List Ar×Addr×Value)},KT H l m->∀x∈m,(tupleKind (AR P w)).is h x.1 x.2.1:=by
  intro l m q
  induction q with
  | nil=>intro x hx;exact nomatch hx
  | @cons p q ps qs hq t ih=>
   intro x hx
   rcases List.mem_cons.mp hx with e | hx
   ·subst e
    exact IB ok (by rw [<-hq.1];exact hq.2.1)
   ·exact ih x hx
 exact all r x hx
theorem QW {kvs:List (List Ar×V)} (ok:HOk P w H h) (e:H a=some (.dT kvs)):kvs.length<=sizeLine/\(a==sysModules)=false/\
  ∃xs,KT H kvs xs/\h.DictOfH (tupleKind (AR P w)) a xs:=IC ok (.inl e)
end
def DGet (H:Hp) (a:Addr) (y:V) (r:Option V):Prop:=
 (∃kvs k,Rd H a (.dK kvs)/\y=kV k/\r=BK kvs k)\/ ∃kvs k b,Rd H a (.dT kvs)/\y= .ref b/\H b=some (.tup (k.map kV))/\r=BK kvs k
def DPut (H:Hp) (a:Addr) (y v:V) (H':Hp):Prop:=
 (∃kvs k,H a=some (.dK kvs)/\y=kV k/\kvs.length<sizeLine/\H'=upd H a (.dK (BA kvs k v)))\/
 ∃kvs k b,H a=some (.dT kvs)/\y= .ref b/\H b=some (.tup (k.map kV))/\kvs.length<sizeLine/\H'=upd H a (.dT (BA kvs k v))
theorem DGet.k {H:Hp}{a:Addr}{kvs:List (Ar×V)}{k:Ar} (e:H a=some (.dK kvs)):DGet H a (kV k) (BK kvs k):= .inl ⟨kvs,k,.inl e,rfl,rfl⟩
theorem DPut.k {H:Hp}{a:Addr}{kvs:List (Ar×V)}{k:Ar}{v:V} (e:H a=some (.dK kvs)) (hl:kvs.length<sizeLine):DPut H a (kV k) v (upd H a (.dK (BA kvs k v))):= .inl ⟨kvs,k,e,rfl,hl,rfl⟩
section
variable {X : Cx} {pins : List (Addr × Obj)} {σ : St} {H : Hp} {s : Shared} {a : Addr} {y v : V} {u r : Value} {o : Option V} {A : Around} {E : Value -> Shared -> Prop}
theorem Ac.bigX (I:Ac X pins σ H s):sysModules<s.heap.objs.size:=by
 have h:mainGlobals<s.heap.objs.size:=(I.mod.glob.keeps I.bk).lt
 exact Nat.lt_trans (by decide) h
theorem ID {t':Nat}{ob:HO} (I:Ac X pins σ H s) (mu:EC (H a)) (hs:Heap.SameBut a s.heap h') (he:∃q,h'.get? a=some q) (new:ObjOk X.prog X.w (upd H a ob) h' a ob):
  Ac X pins σ (upd H a ob) { s with heap:=h',toks:=t'}:=
 I.write (x:=a) (e:=a) mu (.inl rfl) (λb q hb z=>(hs.2 b hb).trans z) he new
theorem Ls {P:Program}{w:World}{kvs:List (Ar×V)}{vs:List (Ar×Value)} (z:kvs.length<=sizeLine) (hd:(a==sysModules)=false) (rel:KV kvs vs) (dd:h'.DictOf (AR P w) a vs):
  ObjOk P w H' h' a (.dK kvs):=⟨z,hd,vs,rel,dd⟩
theorem QX {Q:Unit->Shared->Prop} (hu:A.units+1<cLine) (I:Ac X pins σ H s) (g:DPut H a y v H') (ry:Av y u) (rv:Av v r) (h:∀s',Ac X pins σ H' s'->Q () s'):
  wpAny (model X.prog X.w) A (setItem (.ref a) u r) Q E s:=by
 rcases g with⟨kvs,k,e,ey,l,eH⟩ | ⟨kvs,k,b,e,ey,eb,l,eH⟩
 ·subst ey eH
  obtain⟨z,hd,vs,rel,dd⟩:=Lr I.hok e
  have hz:vs.length<=sizeLine:=by rw [<-rel.length];exact z
  have hl:(BA kvs k v).length<=sizeLine:=by have:=Iz kvs k v;omega
  refine wpAny_setItem_pairs (hsz:=hz) (Gh ry) dd λh' dd' hs=>h _ ?_
  have he:∃q,h'.get? a=some q:=let ⟨q,_,_,hq,_⟩:=dd';⟨q,hq⟩
  exact ID I (by rw [e];exact True.intro) hs he (Ls hl hd (rel.putX k rv) dd')
 ·subst ey eH
  cases(show u=Value.ref b from ry)
  obtain⟨z,hd,xs,rel,dd⟩:=QW I.hok e
  have hz:xs.length<=sizeLine:=by rw [<-Paired.length rel];exact z
  have hl:(BA kvs k v).length<=sizeLine:=by have:=Iz kvs k v;omega
  refine wpAny_setItem_heap (hsz:=hz) (tupleKind_room_in1 hu) (IB I.hok eb) dd λh' dd' hs=>h _ ?_
  obtain⟨q,es,ep,hq,h2,h3,h4,_,h5⟩:=dd'
  refine ID I (by rw [e];exact True.intro) hs ⟨q,hq⟩ ⟨hl,hd,_,(rel.put k eb rv).keeps λc ys ec=>?_,q,es,ep,hq,h2,h3,h4,h5⟩
  rw [Ap (Je ec e (λz=>nomatch z))]
  exact ec
end
section
variable {X : Cx} {pins : List (Addr × Obj)} {σ : St} {H : Hp} {s : Shared} {a : Addr} {kvs : List (Ar × V)} {k : Ar} {u : Value} {A : Around} {E : Value -> Shared -> Prop}
end
def QY (td ty tv:TE):TS:=λD σ H=>tv σ H λv H1=>td σ H1 λx H2=>ty σ H2 λy H3=>∃a H4,x= .ref a/\DPut H3 a y v H4/\D.nx σ H4
section
variable {X : Cx} {o i e value : Expr} {pos pos' tpos : Pos} {td ty tv : TE}
theorem QZ (hu:X.A.units+1<cLine) (ho:PE X o td) (hi:PE X i ty) (hv:PE X value tv) (hs:swapsWith value (some (.Subscript o i pos')) pos.line X.env=pure false):
  PS X (.Assign [.Subscript o i pos'] value pos) (QY td ty tv):=by
 intro pins s σ H D I h
 refine wpAny_Assign_Subscript (Am (hv pins s σ H _ I h) λr s1 ⟨v,H1,I1,rv,q1⟩=>Am (ho pins s1 σ H1 _ I1 q1) λu s2 ⟨x,H2,I2,rx,q2⟩=>Am (hi pins s2 σ H2 _ I2 q2) λiv s3 ⟨y,H3,I3,ry,a,H4,ex,g,q3⟩=>?_) hs
 subst ex
 obtain rfl:u=Value.ref a:=rx
 exact QX hu I3 g ry rv λs4 I4=>⟨σ,H4,I4,q3⟩
end
theorem Lu {P:Program}{w:World}{H:Hp} (h:Heap) (hb:sysModules<h.objs.size):ObjOk P w H (h.push { cls:= .type "dict",data:= .dict #[]}) h.objs.size (.dK []):=
 ⟨Nat.zero_le _,beq_eq_false_iff_ne.mpr (Ne.symm (Nat.ne_of_lt hb)),[],.nil,Heap.DictOf.new h⟩
def Q0:TE:=λ_ H Q=>∀p,H p=none->Q (.ref p) (upd H p (.dK []))
section
variable {X : Cx} {pos : Pos}
theorem Lv:PE X (.Dict [] [] pos) Q0:=λpins s σ H Q I h=>
 wpAny_Dict_empty ⟨.ref s.heap.objs.size,_,I.laid (a:=s.heap.objs.size) (o:= .dK []) (t':=s.toks) (λ_ _ q=>Heap.get?_push_of_some _ q) (Nat.le_refl _) (Lu s.heap I.bigX),rfl,h _ (I.hok.fresh (Nat.le_refl _))⟩
end
def IE:List (TE×TE)->St->Hp->(List (V×V)->Hp->Prop)->Prop
  | [],_,H,Q=>Q [] H
  | (tk,tv)::r,σ,H,Q=>tk σ H λx H1=>tv σ H1 λy H2=>IE r σ H2 λps H3=>Q ((x,y)::ps) H3
abbrev VV:List (V×V)->List (Value×Value)->Prop:=Paired λp q=>Av p.1 q.1/\Av p.2 q.2
def Gi (X:Cx) (pos:Pos) (keys:List (Option Expr)) (values:List Expr) (trs:List (TE×TE)):Prop:=
 ∀(pins:List (Addr×Obj)) (s:Shared) (σ:St) (H:Hp) (Q:List (V×V)->Hp->Prop),Ac X pins σ H s->IE trs σ H Q->
  wpAny (model X.prog X.w) X.A (evalPairs (pairTrees keys values X.env pos)) (λvs s'=>∃ps H',Ac X pins σ H' s'/\VV ps vs/\Q ps H') X.xe s
theorem Q1 {X:Cx}{pos:Pos}:Gi X pos [] [] []:=λpins s σ H Q I h=>pairTrees_nil_walk ⟨[],H,I,.nil,h⟩
theorem Q2 {X:Cx}{pos:Pos}{k v:Expr}{ks:List (Option Expr)}{vs:List Expr}{tk tv:TE} (hk:PE X k tk) (hv:PE X v tv) (hr:Gi X pos ks vs trs):
  Gi X pos (some k::ks) (v::vs) ((tk,tv)::trs):=λpins s σ H Q I h=>
 pairTrees_cons_walk (Am (hk pins s σ H _ I h) λu s1 ⟨x,H1,I1,rx,q1⟩=>Am (hv pins s1 σ H1 _ I1 q1) λw2 s2 ⟨y,H2,I2,ry,q2⟩=>
  Am (hr pins s2 σ H2 _ I2 q2) λws s3 ⟨ps,H3,I3,rel,q3⟩=>⟨(x,y)::ps,H3,I3,.cons ⟨rx,ry⟩ rel,q3⟩)
def DC (kvs more:List (Ar×V)):List (Ar×V):=more.foldl (λacc kv=>BA acc kv.1 kv.2) kvs
theorem KV.merge:∀ {more:List (Ar×V)}{rs:List (Ar×Value)}{kvs:List (Ar×V)}{vs:List (Ar×Value)},KV more rs->KV kvs vs->KV (DC kvs more) (merged vs rs):=by
 intro more rs kvs vs r
 unfold KV at r
 induction r generalizing kvs vs with
 | nil=>intro q;exact q
 | @cons p q ps qs h t ih=>
  intro r0
  have e:KV (BA kvs p.1 p.2) (stored vs q.1 q.2):=by
   have:=r0.putX p.1 h.2
   rw [<-h.1];exact this
  exact ih e
theorem Lw:∀(more kvs:List (Ar×V)),(DC kvs more).length<=kvs.length+more.length
 | [],kvs=>by show kvs.length<=kvs.length+0;omega
 | p::r,kvs=>by
  have h1:=Lw r (BA kvs p.1 p.2)
  have h2:=Iz kvs p.1 p.2
  show(DC (BA kvs p.1 p.2) r).length<=_
  rw [List.length_cons];omega
theorem Lx {P:Program}{w:World}:∀ {kvs:List (Ar×V)}{ws:List (Value×Value)},VV (kvs.map λkv=>(kV kv.1,kv.2)) ws->∃rs,Carries (AR P w) ws rs/\KV kvs rs
 | [],_,r=>by rw [List.map_nil] at r;cases r;exact⟨[],True.intro,.nil⟩
 | p::kvs,_,r=>by
  rw [List.map_cons] at r
  cases r with
  | @cons a b as bs h t=>
   obtain⟨rs,c,q⟩:=Lx (P:=P) (w:=w) t
   obtain⟨b1,b2⟩:=b
   exact⟨(p.1,b2)::rs,⟨Gh h.1,rfl,c⟩,.cons ⟨rfl,h.2⟩ q⟩
def Q3 (trs:List (TE×TE)):TE:=fun σ H Q=>∀p,H p=none->IE trs σ (upd H p (.dK [])) λps H2=>H2 p=some (.dK [])/\∃kvs:List (Ar×V),ps=kvs.map (λkv=>(kV kv.1,kv.2))/\kvs.length<=15/\Q (.ref p) (upd H2 p (.dK (DC [] kvs)))
theorem Q4 {X:Cx}{pos:Pos}{keys:List (Option Expr)}{values:List Expr} (h:Gi X pos keys values trs) (hall:keys.all (·.isSome)=true) (hl:keys.length=values.length) (h0:keys≠ [])
  (h15:keys.length<=15):PE X (.Dict keys values pos) (Q3 trs):=by
 intro pins s σ H Q I q
 have hn:=I.hok.fresh (Nat.le_refl s.heap.objs.size)
 have I1:=I.laid (a:=s.heap.objs.size) (o:= .dK []) (h':=s.heap.push { cls:= .type "dict",data:= .dict #[]}) (t':=s.toks) (λ_ _ q=>Heap.get?_push_of_some _ q) (Nat.le_refl _) (Lu s.heap I.bigX)
 refine wpAny_Dict_walk (knd:=AR X.prog X.w) hall hl h0 h15 (Am (h pins _ σ _ _ I1 (q _ hn)) λws s2 ⟨ps,H2,I2,rel,e,kvs,ep,lk,q2⟩=>?_)
 subst ep
 obtain⟨rs,c,rk⟩:=Lx (P:=X.prog) (w:=X.w) rel
 obtain⟨z,hd,vs0,r0,dd⟩:=Lr I2.hok e
 cases r0
 refine⟨rs,c,dd,λh' dd' hs=>⟨.ref s.heap.objs.size,_,?_,rfl,q2⟩⟩
 have hz:(DC [] kvs).length<=sizeLine:=by
  have h1:=Lw kvs []
  rw [List.length_nil] at h1
  rw [sizeLine_eq];omega
 have he:∃q,h'.get? s.heap.objs.size=some q:=let ⟨q,_,_,hq,_⟩:=dd';⟨q,hq⟩
 exact ID I2 (by rw [e];exact True.intro) hs he (Ls hz hd (rk.merge .nil) dd')
structure M1 (X:Cx) (o:Expr) (m:Str) (apos:Pos) (e:Expr) (cpos:Pos):Prop where
 base:attributeBase o m X.env (eval o X.env)=eval o X.env
 few:((backTo cpos (starEach [e] X.env)).all (λx=> !x.1) &&(backToKw cpos (keywordEach [] X.env)).all (λx=>x.1.isSome)
  && decide (([e]:List Expr).length+([]:List Keyword).length+(if ([]:List Keyword).isEmpty then 0 else 1)<30))=true
 line:(apos.endLine==cpos.line)=true
 trees:backTo cpos (starEach [e] X.env)=[(false,eval e X.env)]
structure M2 (X:Cx) (o:Expr) (m:Str) (apos:Pos) (e f:Expr) (cpos:Pos):Prop where
 base:attributeBase o m X.env (eval o X.env)=eval o X.env
 few:((backTo cpos (starEach [e,f] X.env)).all (λx=> !x.1) &&(backToKw cpos (keywordEach [] X.env)).all (λx=>x.1.isSome)
  && decide (([e,f]:List Expr).length+([]:List Keyword).length+(if ([]:List Keyword).isEmpty then 0 else 1)<30))=true
 line:(apos.endLine==cpos.line)=true
 trees:backTo cpos (starEach [e,f] X.env)=[(false,eval e X.env),(false,eval f X.env)]
def Ly (H:Hp) (a:Addr):Prop:=(∃kvs,Rd H a (.dK kvs))\/ ∃kvs,Rd H a (.dT kvs)
theorem Q5 {X:Cx}{pins:List (Addr×Obj)}{σ:St}{H:Hp}{s:Shared}{a:Addr} (I:Ac X pins σ H s) (d:Ly H a):
  s.TypeIs (.ref a) "dict" /\(∀b,Value.ref a= .ref b->∃ob,s.heap.get? b=some ob/\ob.dict=none)/\(a==sysModules)=false:=by
 rcases d with⟨kvs,e⟩ | ⟨kvs,e⟩
 ·obtain⟨_,hd,vs,_,dd⟩:=IA I.hok e
  refine⟨dd.typeIs,λb q=>?_,hd⟩
  cases q
  obtain⟨ob,_,_,h1,h2,_⟩:=dd
  exact⟨ob,h1,h2.2.1⟩
 ·obtain⟨_,hd,xs,_,dd⟩:=IC I.hok e
  refine⟨dd.typeIs,λb q=>?_,hd⟩
  cases q
  obtain⟨ob,_,_,h1,h2,_⟩:=dd
  exact⟨ob,h1,h2.2.1⟩
section
variable {X : Cx} {pins : List (Addr × Obj)} {σ : St} {H : Hp} {s : Shared} {a : Addr} {y d : V} {u r : Value} {o : Option V} {A : Around} {E : Value -> Shared -> Prop}
theorem Q6 {Q:Value->Shared->Prop} (hu:A.units+1<cLine) (I:Ac X pins σ H s) (g:DGet H a y o) (ry:Av y u) (rd:Av d r) (h:∀w' s',Ac X pins σ H s'->Av (o.getD d) w'->Q w' s'):
  wpAny (model X.prog X.w) A (call (.builtin "dict.get") [.ref a,u,r]) Q E s:=by
 rcases g with⟨kvs,k,e,ey,l⟩ | ⟨kvs,k,b,e,ey,eb,l⟩
 ·subst ey
  obtain⟨z,hd,vs,rel,dd⟩:=IA I.hok e
  refine call_meetsIn PySem.F.slot_dict_get dd.typeIs PySem.F.entry_dict_get (PySem.F.args_dict_get_3 _ _ _) (meets_dict_get_default (AR X.prog X.w) a (Gh ry) hd r) ⟨_,dd.mapOf,h _ _ (I.tok _) ?_⟩
  rw [l]
  exact(rel.val k).getD rd
 ·subst ey
  cases(show u=Value.ref b from ry)
  obtain⟨z,hd,xs,rel,dd⟩:=IC I.hok e
  refine call_meetsIn PySem.F.slot_dict_get dd.typeIs PySem.F.entry_dict_get (PySem.F.args_dict_get_3 _ _ _) (meetsH_dict_get_default (tupleKind (AR X.prog X.w)) a b hd r) ⟨tupleKind_room_in1 hu,k,xs,IB I.hok eb,dd,h _ _ (I.tok _) ?_⟩
  rw [l]
  exact(rel.val k).getD rd
end
def Q7 (td ty tx:TE):TE:=fun σ H Q=>td σ H λx H1=>∃a,x= .ref a/\Ly H1 a/\ty σ H1 λy H2=>tx σ H2 λz H3=>∃o,DGet H3 a y o/\Q (o.getD z) H3
section
variable {X : Cx} {o e f : Expr} {apos cpos : Pos} {td ty tx : TE}
theorem Q8 (hu:X.A.units+1<cLine) (ho:PE X o td) (he:PE X e ty) (hf:PE X f tx) (m:M2 X o "get" apos e f cpos):PE X (.Call (.Attribute o "get" apos) [e,f] [] cpos) (Q7 td ty tx):=by
 intro pins s σ H Q I h
 refine wpAny_Call_method m.base m.few m.line PySem.F.plainAttrs_dict PySem.F.slot_dict_get PySem.F.type_dict_get (Am (ho pins s σ H _ I h) λu s1 ⟨x,H1,I1,rx,a,ex,d,q1⟩=>?_)
 subst ex
 obtain rfl:u=Value.ref a:=rx
 obtain⟨t1,t2,_⟩:=Q5 I1 d
 refine⟨t1,t2,?_⟩
 rw [m.trees]
 refine Calls.callWith_builtin rfl (Calls.evalArgs_plain (Calls.spliced_cons (Am (he pins s1 σ H1 _ I1 q1) λiv s2 ⟨y,H2,I2,ry,q2⟩=>
  Calls.spliced_cons (Am (hf pins s2 σ H2 _ I2 q2) λfv s3 ⟨z,H3,I3,rz,ov,g,q3⟩=>Calls.spliced_nil ?_))))
 exact Q6 hu I3 g ry rz λw' s4 I4 rw'=>⟨_,H3,I4,rw',q3⟩
end
end L2
end
section
namespace L2
open PySem PySem.Spec PyProof.Rows
variable {X : Cx} {te : TE}
theorem Lz {k:Nat}{A:Around} (hr:Bb k A):A.units+1<cLine:=by have:=hr.un;omega
theorem Q9 {k:Nat}{A:Around} (hr:Bb k A):A.units<cLine:=by have:=hr.un;omega
def Ra (te:TE):TE:=fun σ H Q=>te σ H λx H1=>∃d kvs,x= .ref d/\H1 d=some (.dK kvs)/\∀o,Q x (upd H1 d (.frz o (.dK kvs)))
theorem Rb {e:Expr} (he:PE X e te):PE X e (Ra te):=by
 intro pins s σ H Q I h
 refine Am (he pins s σ H _ I h) λv s1 ⟨x,H1,I1,r1,d,kvs,ex,hd,q⟩=>?_
 subst ex
 obtain⟨hz,hsys,vs,kv,dd⟩:=(show ObjOk X.prog X.w H1 s1.heap d (.dK kvs) from I1.hok d _ hd)
 obtain⟨o,es,ep,eo,r⟩:=id dd
 exact⟨.ref d,_,I1.write (x:=d) (e:=d) (o:= .frz o (.dK kvs)) (t':=s1.toks) (by rw [hd];trivial) (.inl rfl) (λb u _ q=>q) ⟨o,eo⟩ ⟨eo,hz,hsys,vs,kv,dd⟩,r1,q o⟩
theorem Rc {d:Addr}{o:Obj}{kvs:List (Ar×V)}{g:TG}{tb:TS}{D:CD}{σ:St}{H:Hp} (Pv:Nat->St->Hp->Prop) (h0:Pv 0 σ H) (hl:∀i σ H,Pv i σ H->H d=some (.frz o (.dK kvs)))
  (hs:∀i q σ H T,kvs[i]? =some q->Pv i σ H->H T=none->g (.ref T) σ (upd H T (.tup [kV q.1,q.2])) fun σ2 H2=>tb { D with nx:=Pv (i+1),ct:=Pv (i+1),bk:=D.nx} σ2 H2) (hd:∀σ H,Pv kvs.length σ H->D.nx σ H):
  ∃W:Nat->Nat->St->Hp->Prop,(∃m,W 0 m σ H)/\∀i m σ H,W i m σ H->
   ((Em d o kvs).stop i H/\D.nx σ H)\/((Em d o kvs).go i H/\∃N:St->Hp->Prop,(∀σ' H',N σ' H'->∃m',m'<m/\W (i+1) m' σ' H')/\∀x H',(Em d o kvs).yld i H x H'->g x σ H' fun σ2 H2=>tb { D with nx:=N,ct:=N,bk:=D.nx} σ2 H2):=by
 refine⟨λi m σ H=>m=kvs.length-i/\i<=kvs.length/\Pv i σ H,⟨kvs.length,by simp,Nat.zero_le _,h0⟩,?_⟩
 rintro i m σ H ⟨rfl,hi,p⟩
 have q:=hl i σ H p
 by_cases hlt:i<kvs.length
 ·refine .inr ⟨⟨q,hlt⟩,Pv (i+1),fun σ' H' p'=>⟨kvs.length-(i+1),by omega,rfl,hlt,p'⟩,λx H' y=>?_⟩
  obtain⟨T,q',e,n,hq,y⟩:=y
  subst e y
  exact hs i q' σ H T hq p n
 ·have e:i=kvs.length:=by omega
  subst e
  exact .inl ⟨⟨q,rfl⟩,hd σ H p⟩
theorem Re (hu:X.A.units<cLine):OpR X (compareOp .NotEq) (λx y H Q=>∃a b kvs,x= .ref a/\y= .ref b/\Rd H a (.dK kvs)/\Rd H b (.dK [])/\Q (.bl (!kvs.isEmpty)) H):=by
 intro pins s2 σ H2 x y v u Q I2 r1 r2 ⟨p,q,kvs,ex,ey,rp,rq,z⟩
 subst ex ey
 cases r1
 cases r2
 obtain⟨_,hs1,vs,kv,d1⟩:=(show ObjOk X.prog X.w H2 s2.heap p (.dK kvs) from rp.ok I2.hok)
 obtain⟨_,hs2,ws,kw,d2⟩:=(show ObjOk X.prog X.w H2 s2.heap q (.dK []) from rq.ok I2.hok)
 have lk:kvs.length=vs.length:=Paired.length kv
 have lw:0=ws.length:=Paired.length kw
 have ew:ws=[]:=List.eq_nil_of_length_eq_zero lw.symm
 subst ew
 refine PySem.W.keq_ne (r:=true) hs1 hs2 d1 d2 hu (λe=>?_) ⟨.bl (!kvs.isEmpty),H2,I2,?_,z⟩
 ·have:vs=[]:=List.eq_nil_of_length_eq_zero e
  subst this
  exact .nil
 ·have:kvs.isEmpty=(vs.length==([]:List (Ar×Value)).length && true):=by
   cases kvs with
   | nil=>rw [<-lk];rfl
   | cons _ _=>rw [<-lk];rfl
  rw [this];rfl
def EZ (v d:Addr):HO:= .ext λh=>h.IsValuesView v d
def Rf (te:TE):TE:=fun σ H Q=>te σ H λx H1=>∃d kvs,x= .ref d/\Rd H1 d (.dK kvs)/\∀v,H1 v=none->Q (.ref v) (upd H1 v (EZ v d))
theorem Rg {apos cpos:Pos}{e:Expr} (he:PE X e te) (hbase:attributeBase e "values" X.env (eval e X.env)=eval e X.env:=by rfl) (hline:(apos.endLine==cpos.line)=true:=by rfl):
  PE X (.Call (.Attribute e "values" apos) [] [] cpos) (Rf te):=by
 intro pins s σ H Q I h
 refine wpAny_Call_method0_late hbase hline (Am (he pins s σ H _ I h) λv s1 ⟨x,H1,I1,r1,d,kvs,ex,hd,q⟩=>?_)
 subst ex
 cases r1
 obtain⟨_,hsys,vs0,kv0,hm0⟩:=(show ObjOk X.prog X.w H1 s1.heap d (.dK kvs) from hd.ok I1.hok)
 refine⟨"dict","dict.values",F.plainAttrs_dict,F.slot_dict_values,F.type_dict_values,hm0.typeIs,hm0.mapOf.noDict,?_⟩
 refine method_meetsIn F.slot_dict_values F.entry_dict_values rfl (PySem.evalArgs_none ⟨rfl,hm0.typeIs,F.args_dict_values_1 _,_,meets_dict_values (AR X.prog X.w) d hsys,⟨_,hm0⟩,?_⟩)
 refine⟨.ref s1.heap.objs.size,_,I1.laid (o:=EZ s1.heap.objs.size d) (t':=s1.toks) (λb ob q=>Heap.get?_push_of_some _ q) (Nat.le_refl _) ?_,rfl,q _ (I1.hok.fresh (Nat.le_refl _))⟩
 exact⟨⟨_,Heap.get?_push_size _ rfl,rfl,rfl⟩,⟨_,Heap.get?_push_size _ rfl⟩,λh1 h2 ⟨o,ho,r⟩ k=>⟨o,k o ho,r⟩⟩
end L2
end
section
namespace L2
open PySem PySem.Spec PyProof.Rows
variable {a : Addr} {g' : Heap}
theorem Rh:typeLookup (.type "zip") "__len__"=pure none:=by rw [typeLookup_type,builtinLookup_eq_fast];kernel_rfl
theorem Ri:typeLookup (.type "zip") "__length_hint__"=pure none:=by rw [typeLookup_type,builtinLookup_eq_fast];kernel_rfl
def Zd (H:Hp) (Ts:List Addr) (xs ys:List V):Prop:=∀(j:Nat) (T:Addr) (x y:V),Ts[j]? =some T->xs[j]? =some x->ys[j]? =some y->H T=some (.tup [x,y])
structure Rj {X:Cx} (S1 S2:AV X.prog X.w X.K) (pins:List (Addr×Obj)) (σ:St) (z TI TO i1 i2 l1 l2 S:Addr) (xs ys:List V) (i:Nat) (s:Shared) (H:Hp) (Ts:List Addr) (c:Nat):Prop where
 I:Ac X pins σ H s
 fp:∀b∈ [z,TI,TO,i1,i2,S],Ba X pins H b
 z:EM s.heap z TI TO
 ti:Bg s.heap TI (.ref i1) (.ref i2)
 to:∃a b,Bg s.heap TO a b
 i1:S1.It s.heap i1 l1 i
 i2:S2.It s.heap i2 l2 i
 s1:S1.Sq H l1 xs
 s2:S2.Sq H l2 ys
 l:s.heap.get? S=some { cls:= .type "list",dict:=none,data:= .seq (Ts.map Value.ref).toArray c,slots:= #[]}
 n:Ts.length=i
 zd:Zd H Ts xs ys
theorem Rk {X:Cx}{S1 S2:AV X.prog X.w X.K}{A:Around}{pins:List (Addr×Obj)}{σ:St}{R:Result->Shared->Prop}{z TI TO i1 i2 l1 l2 S:Addr}{xs ys:List V}{res:Value} (hh:A.handled=none) (D:EN z TI TO i1 i2 l1 l2)
  (hS:S ∉ [z,TI,TO,i1,i2]) (k1:∀H H':Hp,Ab H H'->S1.Sq H l1 xs->S1.Sq H' l1 xs) (k2:∀H H':Hp,Ab H H'->S2.Sq H l2 ys->S2.Sq H' l2 ys) (hl:xs.length<=ys.length) (hn:xs.length<=1000):
  ∀(k i:Nat) (s:Shared) (H:Hp) (Ts:List Addr) (c:Nat),xs.length-i=k->i<=xs.length->Rj S1 S2 pins σ z TI TO i1 i2 l1 l2 S xs ys i s H Ts c->
   (∀s' H' Ts' c',Ac X pins σ H' s'->Ab H H'->Ba X pins H' S->s'.heap.get? S=some { cls:= .type "list",dict:=none,data:= .seq (Ts'.map Value.ref).toArray c',slots:= #[]}->Ts'.length=xs.length->Zd H' Ts' xs ys->R (.ok (.ret res)) s')->
   codeAny (model X.prog X.w) A (.builtin "list.extend.loop" ⟨[.ref S,.ref z,res],[]⟩) R s:=by
 intro k
 induction k with
 | zero=>
  intro i s H Ts c hk hi L fin
  obtain⟨a,b,hTO⟩:=L.to
  obtain⟨its1,rv1,is1,hz1⟩:=S1.get rfl L.I L.s1
  obtain⟨its2,rv2,is2,hz2⟩:=S2.get rfl L.I L.s2
  have e1:=rv1.length
  have hT:s.TypeIs (.ref z) "zip" :=by obtain⟨f0,f1,hz,_⟩:=L.z;exact⟨_,hz,rfl⟩
  refine codeAny_builtin F.entry_extend_loop ?_
  rw [Around.under_plainId F.plain_extend_loop _]
  show wpAny _ A.in1 (pyNext (.ref z) >>=_) _ _ s
  refine wpAny_bind ?_
  unfold pyNext
  refine wpAny_bind (wpAny_attempt (wpAny_callSpecial?_slot (name:=Str.ofString "__next__") hT F.slot_zip_next (wpAny_call_entry F.slot_zip_next hT F.entry_zip_next
   (J5 S1 S2 hh D L.z L.ti hTO ⟨L.i1,is1⟩ ⟨L.i2,is2⟩ (by simp;omega) λh' tk e hk' he=>?_) (F.args_zip_next_1 _))))
  obtain⟨o,ho,hco⟩:=he
  refine wpAny_bind (wpAny_isInstance (T:="StopIteration") (b:=true) ⟨o,ho,hco⟩ isSubtype_stop ?_)
  refine wpAny_pure (wpAny_pure ?_)
  have hS':=hS
  simp only [List.mem_cons,List.not_mem_nil,or_false,not_or] at hS'
  refine fin _ H Ts c (L.I.ended (wr:=[z,TI,TO,i1,i2]) (tk:=tk) (λb hb=>L.fp b (by simp only [List.mem_cons,List.not_mem_nil,or_false] at hb ⊢;rcases hb with e | e | e | e | e<;>simp [e])) λb o hb q=>hk' b o (λe=>hb (by simp [e])) (λe=>hb (by simp [e])) (λe=>hb (by simp [e])) (λe=>hb (by simp [e])) q) (Ab.refl _) (L.fp S (by simp)) (hk' S _ hS'.1 hS'.2.2.1 hS'.2.2.2.1 hS'.2.2.2.2 L.l) (by have:=L.n;omega) L.zd
 | succ k ih=>
  intro i s H Ts c hk hi L fin
  have hlt:i<xs.length:=by omega
  obtain⟨a,b,hTO⟩:=L.to
  obtain⟨its1,rv1,is1,hz1⟩:=S1.get rfl L.I L.s1
  obtain⟨its2,rv2,is2,hz2⟩:=S2.get rfl L.I L.s2
  have hx:xs[i]? =some xs[i]:=by simp [hlt]
  have hy:ys[i]? =some (ys[i]'(by omega)):=by rw [List.getElem?_eq_getElem (by omega)]
  obtain⟨u1,hu1,ru1⟩:=rv1.get hx
  obtain⟨u2,hu2,ru2⟩:=rv2.get hy
  have hT:s.TypeIs (.ref z) "zip" :=by obtain⟨f0,f1,hz,_⟩:=L.z;exact⟨_,hz,rfl⟩
  refine codeAny_builtin F.entry_extend_loop ?_
  rw [Around.under_plainId F.plain_extend_loop _]
  show wpAny _ A.in1 (pyNext (.ref z) >>=_) _ _ s
  refine wpAny_bind ?_
  unfold pyNext
  refine wpAny_bind (wpAny_attempt (wpAny_callSpecial?_slot (name:=Str.ofString "__next__") hT F.slot_zip_next (wpAny_call_entry F.slot_zip_next hT F.entry_zip_next
   (J4 S1 S2 (x1:=u1) (x2:=u2) hh D L.z L.ti hTO ⟨L.i1,is1⟩ ⟨L.i2,is2⟩ (by simpa using hu1) (by simpa using hu2) λh' tk hz' _ a2 a3 a4 a5 a6 hk'=>wpAny_pure ?_) (F.args_zip_next_1 _))))
  have hS':=hS
  simp only [List.mem_cons,List.not_mem_nil,or_false,not_or] at hS'
  have fp5:∀b∈ [z,TI,TO,i1,i2],Ba X pins H b:=λb hb=>L.fp b (by simp only [List.mem_cons,List.not_mem_nil,or_false] at hb ⊢;rcases hb with e | e | e | e | e<;>simp [e])
  have hSl:=hk' S _ hS'.1 hS'.2.2.1 hS'.2.2.2.1 hS'.2.2.2.2 L.l
  have kk:∀b o,b ∉ [z,TI,TO,i1,i2]->s.heap.get? b=some o->h'.get? b=some o:=λb o hb q=>hk' b o (λe=>hb (by simp [e])) (λe=>hb (by simp [e])) (λe=>hb (by simp [e])) (λe=>hb (by simp [e])) q
  have ht:IsTup h' s.heap.objs.size [u1,u2].toArray:=⟨_,a5,rfl,_,rfl⟩
  have kk':Bg s.heap TI (.ref i1) (.ref i2)->Bg h' TI (.ref i1) (.ref i2):=λq=>hk' _ _ D.TI_z D.TO_TI.symm D.i1_TI.symm D.i2_TI.symm q
  have hTn:H s.heap.objs.size=none:=L.I.hok.fresh (Nat.le_refl _)
  have I1:Ac X pins σ (upd H s.heap.objs.size (.tup [xs[i],ys[i]'(by omega)])) { s with heap:=h',toks:=tk}:=L.I.yielded (tk:=tk) fp5 kk (Nat.le_refl _) ht (.cons ru1 (.cons ru2 .nil)) (by show 2<=sizeLine;decide)
  have sm:Ab H (upd H s.heap.objs.size (.tup [xs[i],ys[i]'(by omega)])):=Ab.new hTn
  have fpN:∀b∈ [z,TI,TO,i1,i2,S],Ba X pins (upd H s.heap.objs.size (.tup [xs[i],ys[i]'(by omega)])) b:=λb hb=>by
   have f:=L.fp b hb
   refine⟨?_,f.2⟩
   have hbt:b<s.heap.objs.size:=by
    simp only [List.mem_cons,List.not_mem_nil,or_false] at hb
    rcases hb with e | e | e | e | e | e<;>rw [e]
    ·obtain⟨f0,f1,hz,_⟩:=L.z;exact Heap.lt_size hz
    ·exact Heap.lt_size L.ti
    ·exact Heap.lt_size hTO
    ·obtain⟨o,q,_⟩:=S1.ito L.i1;exact Heap.lt_size q
    ·obtain⟨o,q,_⟩:=S2.ito L.i2;exact Heap.lt_size q
    ·exact Heap.lt_size L.l
   rw [Ap (Nat.ne_of_lt hbt)];exact f.1
  have hTv:upd H s.heap.objs.size (.tup [xs[i],ys[i]'(by omega)]) s.heap.objs.size=some (.tup [xs[i],ys[i]'(by omega)]):=Ai
  generalize upd H s.heap.objs.size (.tup [xs[i],ys[i]'(by omega)])=H2 at I1 sm fpN hTv
  show wpAny _ A.in1 (updateSeq S (·.push (.ref s.heap.objs.size)) >>=_) _ _ _
  have hU:=Heap.get?_update_self (Obj.mapSeq (·.push (Value.ref s.heap.objs.size))) hSl rfl
  have oth:∀b o,b≠S->h'.get? b=some o->(h'.update S (Obj.mapSeq (·.push (Value.ref s.heap.objs.size)))).get? b=some o:=λb o hb e=>(Heap.get?_update_other _ _ (Ne.symm hb)).trans e
  have eU:(Obj.mapSeq (·.push (Value.ref s.heap.objs.size)) { cls:= .type "list",dict:=none,data:= .seq (Ts.map Value.ref).toArray c,slots:= #[]}:Obj)= { cls:= .type "list",dict:=none,data:= .seq ((Ts++[s.heap.objs.size]).map Value.ref).toArray (match(Obj.mapSeq (·.push (Value.ref s.heap.objs.size)) { cls:= .type "list",dict:=none,data:= .seq (Ts.map Value.ref).toArray c,slots:= #[]}:Obj).data with | .seq _ n=>n | _=>0),slots:= #[]}:=by
   simp [Obj.mapSeq]
  rw [eU] at hU
  obtain⟨b1,b2,a2⟩:=a2
  refine wpAny_bind (wpAny_updateSeq hSl rfl (wpAny_pure ⟨plainId_quiet F.plain_extend_loop _,ih (i+1) _ H2 (Ts++[s.heap.objs.size]) _ (by omega) hlt ⟨I1.ended (wr:=[S]) (tk:=tk) (λb hb=>fpN b (by rw [List.mem_singleton.mp hb];simp)) λb o hb q=>oth b o (λe=>hb (by simp [e])) q,fpN,?_,oth _ _ (λe=>hS'.2.1 e.symm) (kk' L.ti),⟨_,_,oth _ _ (λe=>hS'.2.2.1 e.symm) a2⟩,S1.itk a3.1 λo q=>oth _ o (λe=>hS'.2.2.2.1 e.symm) q,S2.itk a4.1 λo q=>oth _ o (λe=>hS'.2.2.2.2 e.symm) q,k1 _ _ sm L.s1,k2 _ _ sm L.s2,hU,by rw [List.length_append,L.n];rfl,?_⟩ λs'' H' Ts' c' I' sm' f' l' n' zd'=>fin s'' H' Ts' c' I' (sm.trans sm') f' l' n' zd'⟩) (by have:=L.n;have:(1000:Nat)<sizeLine:=(by decide);simp;omega) (by have:=L.n;have:(1000:Nat)<sizeLine:=(by decide);simp;omega))
  ·obtain⟨f0,f1,hz,r⟩:=hz'
   exact⟨f0,f1,oth _ _ (λe=>hS'.1 e.symm) hz,r⟩
  ·intro j T x y hj hx' hy'
   by_cases hlj:j<Ts.length
   ·rw [List.getElem?_append_left hlj] at hj
    exact sm _ _ (L.zd j T x y hj hx' hy')
   ·have ej:j=i:=by
     have:=(List.getElem?_eq_some_iff.mp hj).1
     rw [List.length_append,List.length_singleton] at this
     have:=L.n
     omega
    subst ej
    rw [List.getElem?_append_right (by omega)] at hj
    have hn':=L.n
    rw [show j-Ts.length=0 from by omega] at hj
    rw [hx] at hx'
    rw [hy] at hy'
    cases hj;cases hx';cases hy'
    exact hTv
section
variable {prog : Program} {w : World} {A : Around} {s : Shared} {R : Result -> Shared -> Prop} {E : Value -> Shared -> Prop}
def KpBut (a:Addr) (g g':Heap):Prop:=∀b o,b≠a->g.get? b=some o->g'.get? b=some o
theorem KpBut.trans {g g2:Heap} (x:KpBut a g g') (y:KpBut a g' g2):KpBut a g g2:=λb o n e=>y b o n (x b o n e)
theorem KpBut.upd {g:Heap} (f:Obj->Obj):KpBut a g (g.update a f):=λb o n e=>by rw [Heap.get?_update_ne _ _ _ _ n];exact e
theorem KpBut.new {g:Heap} (o:Obj):KpBut a g (g.push o):=λ_ _ _ e=>Heap.get?_push_of_some _ e
structure DZ (S:Addr) (g g':Heap):Prop where
 it:∃c,g'.get? S=some { cls:= .type "list",dict:=none,data:= .seq #[] c,slots:= #[]}
 kp:KpBut S g g'
 sz:g'.objs.size=g.objs.size
theorem Rl {S:Addr}{g g':Heap} (n:DZ S g g') {f:Array Value->Array Value} (hf:f #[]= #[]) {Q:Unit->Shared->Prop} (h:∀g2,DZ S g g2->Q () { s with heap:=g2}):wpAny (model prog w) A (updateSeq S f) Q E { s with heap:=g'}:=by
 obtain⟨c,e⟩:=n.it
 have e2:(g'.update S (Obj.mapSeq f)).get? S=some { cls:= .type "list",dict:=none,data:= .seq #[] c,slots:= #[]}:=by
  rw [Heap.get?_update_self _ e rfl]
  simp [Obj.mapSeq,hf]
 exact wpAny_updateSeq (s:= { s with heap:=g'}) e rfl (h _ ⟨⟨c,e2⟩,n.kp.trans (KpBut.upd _),(Heap.size_update ..).trans n.sz⟩) (Nat.zero_le _) (by rw [hf];exact Nat.zero_le _)
theorem Rm {S:Addr}{g:Heap} (n:DZ S g g') {Q:Unit->Shared->Prop} (h:∀g2,DZ S g g2->Q () { s with heap:=g2}):wpAny (model prog w) A (Builtin.List.listTouch (.ref S)) Q E { s with heap:=g'}:=by
 obtain⟨c,e⟩:=n.it
 refine wpAny_bind (wpAny_updateSeq (s:= { s with heap:=g'}) e rfl ?_ (Nat.zero_le _) (by decide))
 have e2:=Heap.get?_update_self (Obj.mapSeq λx=>x.push Value.none) e rfl
 refine wpAny_updateSeq (s:= { s with heap:=g'.update S (Obj.mapSeq λx=>x.push Value.none)}) e2 rfl (h _ ⟨⟨_,Heap.get?_update_self _ e2 rfl⟩,n.kp.trans ((KpBut.upd _).trans (KpBut.upd _)),?_⟩) (by decide) (by decide)
 rw [Heap.size_update,Heap.size_update];exact n.sz
def Rn (prog:Program) (w:World) (A:Around) (R:Result->Shared->Prop):PySem.Fin->Shared->Prop
 | .done f,s'=>R (.ok f) s'
 | .again c',s'=>c'.quiet=true/\codeAny (model prog w) A c' R s'
theorem Ro {z S TI TO:Addr}{res:Value}{f0:Value}{g g':Heap} (n:DZ S g g') (hz:IsZip g' z TI TO f0) (hSz:S≠z)
  (hR:∀g2,DZ S g g2->codeAny (model prog w) A (.builtin "list.extend.loop" ⟨[.ref S,.ref z,res],[]⟩) R { s with heap:=g2}):
  wpAny (model prog w) A.in1 (Builtin.List.listExtendWith (.ref S) (.ref z) res) (Rn prog w A R) E { s with heap:=g'}:=by
 have ty:Shared.TypeIs { s with heap:=g'} (.ref z) "zip" :=⟨_,hz,rfl⟩
 have plain:(Builtin.List.listSameRef (.ref S) (.ref z) || Value.type "zip"==Value.type "list" || Value.type "zip"==Value.type "tuple")=false:=by
  rw [show Builtin.List.listSameRef (.ref S) (.ref z)=false from by simp [Builtin.List.listSameRef,hSz]];decide
 refine wpAny_bind (wpAny_typeOf ty ?_)
 rw [plain]
 refine wpAny_bind (wpAny_pyIter_zip (s:= { s with heap:=g'}) hz (wpAny_bind (wpAny_holding (wpAny_bind (wpAny_specialOf ty Rh (wpAny_bind (wpAny_specialOf ty Ri (wpAny_pure ?_))))))))
 exact wpAny_bind (wpAny_rule (wpAny_bind (Rm n λg2 n2=>wpAny_pure ⟨plainId_quiet F.plain_extend_loop _,hR g2 n2⟩)))
theorem Rp {z TI TO:Addr}{f0:Value}{Q:Value->Shared->Prop} (hz:IsZip s.heap z TI TO f0)
  (h:∀h' c',h'.get? s.heap.objs.size=some { cls:= .type "list",dict:=none,data:= .seq #[] c',slots:= #[]}->(∀b o,s.heap.get? b=some o->h'.get? b=some o)->h'.objs.size=s.heap.objs.size+1->codeAny (model prog w) A.in1 (.builtin "list.extend.loop" ⟨[.ref s.heap.objs.size,.ref z,.none],[]⟩) (wants (λr s₂=>r= .none/\Q (.ref s.heap.objs.size) s₂) E) { s with heap:=h'}):
  wpAny (model prog w) A (call (.type "list") [.ref z]) Q E s:=by
 have zl:z<s.heap.objs.size:=Heap.lt_size hz
 refine callType_codes (Q₁:=λv t=>v= .ref s.heap.objs.size/\t= { s with heap:=s.heap.push { cls:= .type "list",data:= .seq #[]}}) F.called_list (F.typeCall_list_1 _) F.entry_list_init (code_list_new _ ⟨rfl,rfl⟩) λv t vt=>?_
 obtain⟨rfl,rfl⟩:=vt
 have n0:DZ s.heap.objs.size (s.heap.push { cls:= .type "list",data:= .seq #[]}) (s.heap.push { cls:= .type "list",data:= .seq #[]}):=⟨⟨0,Heap.get?_push_size _ rfl⟩,λ_ _ _ e=>e,rfl⟩
 obtain⟨c,e⟩:=n0.it
 refine⟨⟨_,e,rfl⟩,F.args_list_init_2 _ _,wpAny_bind (wpAny_bind (wpAny_seqItems e rfl (wpAny_pure ?_)))⟩
 refine wpAny_bind (Rl (s:=s) n0 rfl λg1 n1=>wpAny_bind (wpAny_letGo ?_))
 refine wpAny_mono (M:=model prog w) (t:=Builtin.List.listExtendWith (.ref s.heap.objs.size) (.ref z) .none) (Ro (s:=s) (A:=A.in1) (R:=wants (λr s₂=>r= .none/\Q (.ref s.heap.objs.size) s₂) E) n1 (n1.kp z _ (Nat.ne_of_lt zl) (Heap.get?_push_of_some _ hz)) (Nat.ne_of_gt zl) λg2 n2=>?_) (λfin t q=>by cases fin<;>exact q) λ_ _ q=>q
 obtain⟨c2,e2⟩:=n2.it
 exact h g2 c2 e2 (λb o q=>n2.kp b o (Nat.ne_of_lt (Heap.lt_size q)) (Heap.get?_push_of_some _ q)) (n2.sz.trans (by simp [Heap.size_push]))
end
def E1 {P:Program}{w:World}{K:PySem.W.Frag} (S1 S2:AV P w K) (ta:TA):TE:=fun σ H Q=>ta σ H λvs H1=>∃a b,vs=[.ref a,.ref b]/\(∃xs,S1.Sq H1 a xs)/\(∃xs,S2.Sq H1 b xs)/\∃xs ys,S1.Sq H1 a xs/\S2.Sq H1 b ys/\xs.length<=ys.length/\xs.length<=1000/\∀(L:Addr) (H2:Hp) (Ts:List Addr),Ab H1 H2->H1 L=none->H2 L=some (.lst (Ts.map V.ref))->Ts.length=xs.length->Zd H2 Ts xs ys->Q (.ref L) H2
theorem IF:∀Ts:List Addr,Au (Ts.map V.ref) (Ts.map Value.ref)
 | []=> .nil
 | _::r=> .cons rfl (IF r)
theorem LA {X:Cx}{p pos p2 pos2:Pos}{e1 e2:Expr}{ta:TA} (S1 S2:AV X.prog X.w X.K) (zn:DT S1 S2) (k1:∀(l:Addr) (xs:List V) (H H':Hp),Ab H H'->S1.Sq H l xs->S1.Sq H' l xs) (k2:∀(l:Addr) (xs:List V) (H H':Hp),Ab H H'->S2.Sq H l xs->S2.Sq H' l xs)
  (hg0:Gl X "list") (hm0:X.mg "list"=none) (hg:Gl X "zip") (hm:X.mg "zip"=none) (ha:PA X [e1,e2] ta) (hc:X.calm=true)
  (hs0:starEach [.Call (.Name "zip" p2) [e1,e2] [] pos2] X.env=[(false,eval (.Call (.Name "zip" p2) [e1,e2] [] pos2) X.env)]) (hs:starEach [e1,e2] X.env=[(false,eval e1 X.env),(false,eval e2 X.env)]) (hs2:starEach [e2] X.env=[(false,eval e2 X.env)]):
  PE X (.Call (.Name "list" p) [.Call (.Name "zip" p2) [e1,e2] [] pos2] [] pos) (E1 S1 S2 ta):=by
 intro pins s σ H Q I h
 refine Call_ (B1 I hg0 hm0 boot_list (PyProof.Rows.callWith_type1 (by
  rw [hs0]
  refine Calls.spliced_cons (Am (J6 S1 S2 zn (R:=λl1 l2 H1=>∃xs ys,S1.Sq H1 l1 xs/\S2.Sq H1 l2 ys/\xs.length<=ys.length/\xs.length<=1000/\∀(L:Addr) (H2:Hp) (Ts:List Addr),Ab H1 H2->H1 L=none->H2 L=some (.lst (Ts.map V.ref))->Ts.length=xs.length->Zd H2 Ts xs ys->Q (.ref L) H2) hg hm ha hs hs2 I h) λv s1 ⟨l1,l2,H1,m,e,⟨xs,ys,q1,q2,hl,hn,q⟩,I1,gz,gI,gO,g1,g2,h1,h2,fr,hsz⟩=>?_)
  subst e
  refine Calls.spliced_nil (Rp gz λh' c' hL kp hs'=>?_)
  rw [hsz] at hL ⊢
  have I2:Ac X pins σ H1 { s1 with heap:=h'}:=I1.kept (t':=s1.toks) kp
  have nS:(m+5:Nat) ∉ [m+4,m+2,m+3,m,m+1]:=by simp
  refine Rk (A:=X.A.in1) (S:=m+5) (xs:=xs) (ys:=ys) (pins:=pins) (σ:=σ) (S1:=S1) (S2:=S2) (z:=m+4) (TI:=m+2) (TO:=m+3) (i1:=m) (i2:=m+1) (l1:=l1) (l2:=l2) (I1.ok.hd hc) (J7 h1 h2) nS (k1 l1 xs) (k2 l2 ys) hl hn _ 0 { s1 with heap:=h'} H1 [] c' rfl (Nat.zero_le _)
   ⟨I2, λb hb => fr b (by
    simp only [List.mem_cons,List.not_mem_nil,or_false] at hb
    rcases hb with e | e | e | e | e | e<;>rw [e]<;>first | exact Nat.le_refl _ | exact Nat.le_add_right _ _),⟨_,_,kp _ _ gz,.inl rfl,.inl rfl⟩,kp _ _ gI,⟨_,_,kp _ _ gO⟩,S1.itk g1 λo q=>kp _ o q,S2.itk g2 λo q=>kp _ o q,q1,q2,hL,rfl,λj T x y hj _ _=>by simp at hj⟩ λs' H' Ts c2 I' sm' f' l' n' zd'=>?_
  have hLn:H1 (m+5)=none:=(fr (m+5) (Nat.le_add_right _ _)).1
  have ok:ObjOk X.prog X.w (upd H' (m+5) (.lst (Ts.map V.ref))) s'.heap (m+5) (.lst (Ts.map V.ref)):=⟨by rw [List.length_map,n'];have:(1000:Nat)<sizeLine:=(by decide);omega,_,c2,IF Ts,l'⟩
  have smN:Ab H' (upd H' (m+5) (.lst (Ts.map V.ref))):=Ab.new f'.1
  exact⟨rfl,.ref (m+5),_,I'.trackN (tk:=s'.toks) (h':=s'.heap) f' (λb o _ e=>e) ⟨_,l'⟩ ok,rfl,q (m+5) _ Ts (sm'.trans smN) hLn Ai n' λj T x y a b c=>smN _ _ (zd' j T x y a b c)⟩) hs0 rfl))
theorem Ab.sqT {K:PySem.W.Frag}{H H':Hp}{xs:List V} (e:Ab H H') (h:Ae K H a xs):Ae K H' a xs:=by
 rcases h with(h | ⟨o,h⟩) | h
 ·exact .inl (.inl (e _ _ h))
 ·exact .inl (.inr ⟨o,e _ _ h⟩)
 ·exact .inr h
set_option maxHeartbeats 8000000 in
theorem LB (P:Program) (w:World) (K:PySem.W.Frag):DT (BO P w K) (BE P w K):=λl1 l2 xs1 xs2=>
 .of_wp λprog w A R s h=>by
  obtain⟨hp,g,d,tk,os⟩:=s;obtain⟨hl1,hl2,h⟩:=h;have hsub:=sub_zip
  have hL1:Heap.IsList (Shared.heap ⟨hp,g,d,tk,os⟩) l1 xs1:=hl1
  have hL2:Heap.IsTuple (Shared.heap ⟨(hp).push { cls:= .type "list_iterator",data:= .fields #[.ref l1,.int 0 0]},g,d,tk,os⟩) l2 xs2:=Heap.IsTuple.push (hl2) _
  wp_walk using wpAny_pyIter_list hL1,wpAny_pyIter_tuple hL2
  exact⟨_,rfl,h⟩
theorem Rq (P:Program) (w:World) (K:PySem.W.Frag) {X:Cx}{es:List Expr}{k:Nat}{p pos pos':Pos}{e1 e2:Expr}{ta:TA} (hg:Gl X "zip") (hm:X.mg "zip"=none) (ha:PA X [e1,e2] ta) (hP:X.prog=P:=by rfl) (hw:X.w=w:=by rfl) (hK:X.K=K:=by rfl)
  (hs:starEach [e1,e2] X.env=[(false,eval e1 X.env),(false,eval e2 X.env)]:=by rfl) (hs2:starEach [e2] X.env=[(false,eval e2 X.env)]:=by rfl):
  PI X (.Tuple es k pos') (.Call (.Name "zip" p) [e1,e2] [] pos) (Do (BO P w K) (BE P w K) ta):=by subst hP hw hK;exact HU _ _ (LB _ _ _) hg hm ha hs hs2
theorem Rr (P:Program) (w:World) (K:PySem.W.Frag) {X:Cx}{p pos p2 pos2:Pos}{e1 e2:Expr}{ta:TA} (hg0:Gl X "list") (hm0:X.mg "list"=none) (hg:Gl X "zip") (hm:X.mg "zip"=none) (ha:PA X [e1,e2] ta) (hP:X.prog=P:=by rfl) (hw:X.w=w:=by rfl) (hK:X.K=K:=by rfl) (hc:X.calm=true:=by rfl)
  (hs0:starEach [.Call (.Name "zip" p2) [e1,e2] [] pos2] X.env=[(false,eval (.Call (.Name "zip" p2) [e1,e2] [] pos2) X.env)]:=by rfl) (hs:starEach [e1,e2] X.env=[(false,eval e1 X.env),(false,eval e2 X.env)]:=by rfl) (hs2:starEach [e2] X.env=[(false,eval e2 X.env)]:=by rfl):
  PE X (.Call (.Name "list" p) [.Call (.Name "zip" p2) [e1,e2] [] pos2] [] pos) (E1 (BO P w K) (BE P w K) ta):=by
 subst hP hw hK
 exact LA _ _ (LB _ _ _) (λ_ _ _ _ e q=>e.seq q) (λ_ _ _ _ e q=>e.sqT q) hg0 hm0 hg hm ha hc hs0 hs hs2
end L2
end
section
namespace L2
open PySem PySem.Spec PyProof.Rows
def LC (a b:TE):TE:=fun σ H Q=>a σ H Q\/b σ H Q
theorem Rs {X:Cx}{e:Expr}{a b:TE} (ha:PE X e a) (hb:PE X e b):PE X e (LC a b):=λpins s σ H Q I h=>h.elim (λq=>ha pins s σ H Q I q) λq=>hb pins s σ H Q I q
theorem Rt (P:Program) (w:World) (K:PySem.W.Frag) {X:Cx}{p pos p2 pos2:Pos}{e1 e2:Expr}{ta:TA} (hg0:Gl X "list") (hm0:X.mg "list"=none) (hg:Gl X "zip") (hm:X.mg "zip"=none) (ha:PA X [e1,e2] ta) (hP:X.prog=P:=by rfl) (hw:X.w=w:=by rfl) (hK:X.K=K:=by rfl) (hc:X.calm=true:=by rfl)
  (hs0:starEach [.Call (.Name "zip" p2) [e1,e2] [] pos2] X.env=[(false,eval (.Call (.Name "zip" p2) [e1,e2] [] pos2) X.env)]:=by rfl) (hs:starEach [e1,e2] X.env=[(false,eval e1 X.env),(false,eval e2 X.env)]:=by rfl) (hs2:starEach [e2] X.env=[(false,eval e2 X.env)]:=by rfl):
  PE X (.Call (.Name "list" p) [.Call (.Name "zip" p2) [e1,e2] [] pos2] [] pos) (E1 (BO P w K) (BO P w K) ta):=by
 subst hP hw hK
 exact LA _ _ (OA _ _ _) (λ_ _ _ _ e q=>e.seq q) (λ_ _ _ _ e q=>e.seq q) hg0 hm0 hg hm ha hc hs0 hs hs2
theorem Ru {P:Program}{w:World}{K:PySem.W.Frag}{S1 S2 S3:AV P w K}{ta:TA}{σ:St}{H H1:Hp}{Q:VK}{a b:Addr}{xs ys:List V} (e:∀k,ta σ H k=k [.ref a,.ref b] H1) (q1:S1.Sq H1 a xs) (d:S2.Sq H1 b ys\/S3.Sq H1 b ys) (hl:xs.length<=ys.length) (hn:xs.length<=1000)
  (go:∀(L:Addr) (H2:Hp) (Ts:List Addr),Ab H1 H2->H1 L=none->H2 L=some (.lst (Ts.map V.ref))->Ts.length=xs.length->Zd H2 Ts xs ys->Q (.ref L) H2):LC (E1 S1 S2 ta) (E1 S1 S3 ta) σ H Q:=by
 rcases d with d | d
 ·refine Or.inl ?_
  show ta σ H _
  rw [e]
  exact⟨a,b,rfl,⟨_,q1⟩,⟨_,d⟩,xs,ys,q1,d,hl,hn,go⟩
 ·refine Or.inr ?_
  show ta σ H _
  rw [e]
  exact⟨a,b,rfl,⟨_,q1⟩,⟨_,d⟩,xs,ys,q1,d,hl,hn,go⟩
end L2
end
section
namespace MF
open PySem PySem.Spec PyProof.Rows L2
def mx (a b:Int):Int:=if a<b then b else a
def LD (T:TM):Nat->Int
 | 0=>T.lo
 | j+1=>mx T.lo (LD T j+T.ds.getD (T.ds.length-1-j) 0-(T.cs.getD (T.ds.length-1-j) []).sum)
def lz (T:TM) (j:Nat):Int:=LD T (T.ds.length-j)
theorem LE {T:TM}:lz T T.ds.length=T.lo:=by unfold lz;rw [Nat.sub_self];rfl
theorem E2 {T:TM}{j:Nat} (h:j<T.ds.length):lz T j=mx T.lo (lz T (j+1)+T.ds.getD j 0-(T.cs.getD j []).sum):=by
 unfold lz
 rw [show T.ds.length-j=(T.ds.length-(j+1))+1 from by omega]
 show mx T.lo _=_
 rw [show T.ds.length-1-(T.ds.length-(j+1))=j from by omega]
theorem Rv {a b:Int}:a<=mx a b:=by unfold mx;split<;>omega
theorem IG {a b:Int}:b<=mx a b:=by unfold mx;split<;>omega
theorem LF {a b c:Int} (h1:a<=c) (h2:b<=c):mx a b<=c:=by unfold mx;split<;>omega
theorem Rw {T:TM}:∀ {j:Nat},T.lo<=lz T j:=by
 intro j
 unfold lz
 cases T.ds.length-j with
 | zero=>exact Int.le_refl _
 | succ k=>exact Rv
theorem LG {l:List Int}{k:Nat} (h:l.length<=k):l.getD k 0=0:=by rw [List.getD_eq_getElem?_getD,List.getElem?_eq_none h];rfl
end MF
end
section
namespace L2
open PySem PySem.Spec PyProof.Rows
theorem LH:∀ {kvs:List (Ar×V)}{vs:List (Ar×Value)},KV kvs vs->Au (kvs.map (·.2)) (vs.map (·.2))
 | _,_,.nil=> .nil
 | _,_,.cons h r=> .cons h.2 (LH r)
theorem Rx {X:Cx} (hc:X.calm=true):Be X (.type "list") (λxs H Q=>∃(v d:Addr) (kvs:List (Ar×V)),xs=[.ref v]/\H v=some (EZ v d)/\Rd H d (.dK kvs)/\∀l,H l=none->Q (.ref l) (upd H l (.lst (kvs.map (·.2))))):=by
 intro pins s σ H xs us Q I r h
 obtain⟨v,d,kvs,rfl,hv,hd,q⟩:=h
 obtain⟨u,rfl,ru⟩:=r.one
 cases ru
 obtain⟨hsz,hsys,vs,kv,hm⟩:=(show ObjOk X.prog X.w H s.heap d (.dK kvs) from hd.ok I.hok)
 obtain⟨hview,_,_⟩:=(show ObjOk X.prog X.w H s.heap v (EZ v d) from I.hok v _ hv)
 obtain⟨ep,hat⟩:=hm.dictAt
 have lk:kvs.length=vs.length:=Paired.length kv
 refine PySem.W.kdl_call (PySem.W.kdl_values (knd:=AR X.prog X.w) (r:=v) (d:=d) (kvs:=vs) (ep:=ep)) (I.ok.hd hc) ⟨hview,hat⟩ (by omega) λh' tk acc' c' hk hl hi=>?_
 have ea:acc'=(vs.map (·.2)).toArray:=by
  apply Array.ext
  ·rw [hi.1];simp
  ·intro i h1 h2
   obtain⟨k,e⟩:=hi.2 i acc'[i] (Array.getElem?_eq_getElem h1)
   simp only [List.getElem_toArray,List.getElem_map]
   have:=(List.getElem?_eq_some_iff.mp e).2
   rw [this]
 rw [ea] at hl
 exact⟨.ref s.heap.objs.size,_,I.laid (o:= .lst (kvs.map (·.2))) (t':=tk) hk (Nat.le_refl _) (show ObjOk X.prog X.w _ h' _ (.lst (kvs.map (·.2))) from⟨by rw [List.length_map];exact hsz,_,c',LH kv,hl⟩),rfl,q _ (I.hok.fresh (Nat.le_refl _))⟩
end L2
end
section
namespace MF
open PySem PySem.Spec PyProof.Rows L2
variable {α : Type} {xs : List α} {T : TM} {sp : Nat -> Int}
theorem LI {f l:Nat} (h:f<=l) (hl:l<xs.length):part xs f l=xs[f]'(by omega)::part xs (f+1) l:=by
 unfold part
 rw [List.drop_eq_getElem_cons (show f<xs.length by omega),show l+1-f=(l+1-(f+1))+1 from by omega,List.take_succ_cons]
theorem LJ {f:Nat}:part xs (f+1) f=[]:=by unfold part;simp
def sm (T:TM) (f l:Nat):Int:=Dt T f l-most T f l
theorem Gj {T:TM} (lc:T.cs.length=T.ds.length) {f l:Nat} (h:f<=l) (hl:l<T.ds.length):sm T f l=T.ds.getD f 0-(T.cs.getD f []).sum+sm T (f+1) l:=by
 unfold sm Dt most
 rw [LI h hl,LI h (by omega:l<T.cs.length),List.map_cons,List.sum_cons,List.sum_cons]
 rw [List.getD_eq_getElem?_getD,List.getElem?_eq_getElem (by omega),List.getD_eq_getElem?_getD,List.getElem?_eq_getElem (by omega)]
 show _-_=T.ds[f]'(by omega)-(T.cs[f]'(by omega)).sum+_
 omega
theorem LK {f:Nat}:sm T (f+1) f=0:=by unfold sm Dt most;rw [LJ,LJ];rfl
theorem Ry (lc:T.cs.length=T.ds.length):∀k f,f+k<T.ds.length->T.lo+sm T f (f+k)<=lz T f:=by
 intro k
 induction k with
 | zero=>
  intro f h
  show T.lo+sm T f f<=_
  rw [Gj (f:=f) (l:=f) lc (Nat.le_refl _) h,LK,E2 (by omega)]
  have:=Rw (T:=T) (j:=f+1)
  refine Int.le_trans ?_ IG
  omega
 | succ k ih=>
  intro f h
  rw [Gj lc (by omega) h,E2 (by omega)]
  have:=ih (f+1) (by omega)
  rw [show f+1+k=f+(k+1) from by omega] at this
  refine Int.le_trans ?_ IG
  omega
theorem LL (lc:T.cs.length=T.ds.length):∀k f (X:Int),f+k=T.ds.length->T.lo<=X->(∀l,f<=l->l<T.ds.length->T.lo+sm T f l<=X)->lz T f<=X:=by
 intro k
 induction k with
 | zero=>intro f X e h _;rw [show f=T.ds.length from by omega,LE];exact h
 | succ k ih=>
  intro f X e h hl
  rw [E2 (by omega)]
  refine LF h ?_
  have h0:=hl f (Nat.le_refl _) (by omega)
  rw [Gj lc (Nat.le_refl _) (by omega),LK] at h0
  have:=ih (f+1) (X-T.ds.getD f 0+(T.cs.getD f []).sum) (by omega) (by omega) λl h1 h2=>by
   have:=hl l (by omega) h2
   rw [Gj lc (by omega) h2] at this
   omega
  omega
theorem Rz (lc:T.cs.length=T.ds.length) (h1:T.lo<=T.st) (h2:T.lo<=T.hi):AK T=none↔lz T 0<=T.st/\∀j,1<=j->j<=T.ds.length->lz T j<=T.hi:=by
 rw [no_str]
 have tm:∀f l,Bz T f l=false↔T.lo+sm T f l<=(if f=0 then T.st else T.hi):=λf l=>by
  unfold Bz sm
  rw [decide_eq_false_iff_not]
  omega
 constructor
 ·intro h
  refine⟨LL lc T.ds.length 0 _ (by omega) h1 λl _ hl=>?_,λj hj hn=>LL lc (T.ds.length-j) j _ (by omega) h2 λl hjl hl=>?_⟩
  ·have:=(tm 0 l).mp (h 0 l (by omega) hl)
   rw [if_pos rfl] at this;exact this
  ·have:=(tm j l).mp (h j l hjl hl)
   rw [if_neg (by omega)] at this;exact this
 ·intro⟨a,b⟩ f l hf hl
  refine(tm f l).mpr ?_
  have g:=Ry lc (l-f) f (by omega)
  rw [show f+(l-f)=l from by omega] at g
  by_cases e:f=0
  ·rw [if_pos e];subst e;omega
  ·rw [if_neg e]
   have:=b f (by omega) (by omega)
   omega
def xM (hi st:Int) (b d x:Nat->Int):Nat->Int
 | 0=>st
 | j+1=>min hi (xM hi st b d x j+(b j+x j)-d j)
def LM (lo hi st:Int) (b d sp x:Nat->Int) (j:Nat):Prop:=∀i,i<j->0<=x i/\x i<=sp i/\lo<=xM hi st b d x (i+1)
def Er (t:List (Int×Int)) (k v:Int):List (Int×Int):=if v<(AQ t k).getD 1000000000 then B7 t k v else t
theorem Mn.less {L:Int×Int->Prop}{t:List (Int×Int)} (m:Mn L t) (k v:Int) (h9:v<1000000000):Mn (λq=>L q\/q=(k,v)) (Er t k v):=by
 unfold Er
 split
 ·rename_i c
  have e:Ge t k v=B7 t k v:=by
   unfold Ge
   cases z:AQ t k with
   | none=>show B7 t k (min v v)=_;rw [show min v v=v from by omega]
   | some x=>rw [z] at c;show B7 t k (min v x)=_;rw [show min v x=v from by have:v<x:=c;omega]
  rw [<-e];exact m.put k v
 ·rename_i c
  refine⟨λq hq=> .inl (m.snd q hq),λq hq=>?_,m.nd⟩
  rcases hq with h | h
  ·exact m.cmp q h
  ·subst h
   cases z:AQ t k with
   | none=>rw [z] at c;exact absurd h9 c
   | some x=>rw [z] at c;exact⟨x,rfl,by have:¬v<x:=c;show x<=v;omega⟩
def Dc (l p:Int):Int:=if 0>l-p then 0 else l-p
def gM (T:TM) (b:Nat->Int):Nat->Int
 | 0=>T.st
 | j+1=>min T.hi (gM T b j+(b j-T.ds.getD j 0)+Dc (lz T (j+1)) (gM T b j+(b j-T.ds.getD j 0)))
def gL (T:TM) (b:Nat->Int) (j:Nat):Int:=Dc (lz T (j+1)) (gM T b j+(b j-T.ds.getD j 0))
abbrev dT (T:TM) (j:Nat):Int:=T.ds.getD j 0
structure IH (T:TM) (b sp:Nat->Int):Prop where
 sum:∀j,j<T.ds.length->b j+sp j=(T.cs.getD j []).sum
 pos:∀j,j<T.ds.length->0<=sp j
theorem RA {l p:Int}:0<=Dc l p/\l<=p+Dc l p/\(p+Dc l p=p/\l<=p\/p+Dc l p=l/\p<l):=by unfold Dc;split<;>omega
theorem g_ok {b:Nat->Int} (s:IH T b sp) (h0:lz T 0<=T.st) (hh:∀j,1<=j->j<=T.ds.length->lz T j<=T.hi):∀j,j<=T.ds.length->lz T j<=gM T b j/\(j<T.ds.length->0<=gL T b j/\gL T b j<=sp j/\lz T (j+1)<=gM T b (j+1)):=by
 have step:∀j,j<T.ds.length->lz T j<=gM T b j->0<=gL T b j/\gL T b j<=sp j/\lz T (j+1)<=gM T b (j+1):=λj hj h=>by
  have hs:=s.sum j hj
  have hp:=s.pos j hj
  rw [E2 hj] at h
  have h':lz T (j+1)+T.ds.getD j 0-(T.cs.getD j []).sum<=gM T b j:=Int.le_trans IG h
  have hz:=hh (j+1) (by omega) (by omega)
  obtain⟨l1,l2,l3⟩:=RA (l:=lz T (j+1)) (p:=gM T b j+(b j-T.ds.getD j 0))
  refine⟨l1,?_,?_⟩
  ·show Dc _ _<=sp j
   rcases l3 with⟨a,_⟩ | ⟨a,_⟩<;>omega
  ·show lz T (j+1)<=min T.hi (gM T b j+(b j-T.ds.getD j 0)+Dc (lz T (j+1)) (gM T b j+(b j-T.ds.getD j 0)))
   omega
 have main:∀j,j<=T.ds.length->lz T j<=gM T b j:=by
  intro j
  induction j with
  | zero=>intro _;exact h0
  | succ j ih=>intro h;exact(step j (by omega) (ih (by omega))).2.2
 exact λj h=>⟨main j h,λhj=>step j hj (main j h)⟩
theorem RB {b x:Nat->Int} (s:IH T b sp) (h1:T.lo<=T.st) (ok:LM T.lo T.hi T.st b (dT T) sp x T.ds.length):∀k j,j+k=T.ds.length->lz T j<=xM T.hi T.st b (dT T) x j:=by
 have lo:∀j,j<=T.ds.length->T.lo<=xM T.hi T.st b (dT T) x j:=λj hj=>by
  cases j with
  | zero=>exact h1
  | succ j=>exact(ok j (by omega)).2.2
 intro k
 induction k with
 | zero=>intro j e;rw [show j=T.ds.length from by omega,LE];exact lo _ (Nat.le_refl _)
 | succ k ih=>
  intro j e
  have h:=ih (j+1) (by omega)
  rw [E2 (by omega)]
  refine LF (lo j (by omega)) ?_
  have hs:=s.sum j (by omega)
  have hx:=ok j (by omega)
  have e2:xM T.hi T.st b (dT T) x (j+1)=min T.hi (xM T.hi T.st b (dT T) x j+(b j+x j)-T.ds.getD j 0):=rfl
  rw [e2] at h
  omega
end MF
end
section
namespace MF
open PySem PySem.Spec PyProof.Rows L2
theorem LN {l:List (List Int)}{k:Nat}{x:List Int} (h:k<l.length) (i:Nat):(l.set k x).getD i []=if i=k then x else l.getD i []:=by
 rw [List.getD_eq_getElem?_getD,List.getElem?_set]
 by_cases c:k=i
 ·subst c;rw [if_pos rfl,if_pos h,if_pos rfl];rfl
 ·rw [if_neg c,if_neg (λz=>c z.symm),List.getD_eq_getElem?_getD]
end MF
end
section
namespace MF
open PySem PySem.Spec PyProof.Rows L2
variable {T : TM} {F : List (List Int)} {h : Nat}
def mT (T:TM) (F:List (List Int)):Nat->Int
 | 0=>T.st
 | i+1=>min T.hi (mT T F i+(F.getD i []).sum-T.ds.getD i 0)
structure Ch (T:TM) (F:List (List Int)):Prop where
 len:F.length=T.ds.length
 row:∀i,i<T.ds.length->(F.getD i []).length=T.co.length
 bd:∀i b,i<T.ds.length->b<T.co.length->0<=(F.getD i []).getD b 0/\(F.getD i []).getD b 0<=(T.cs.getD i []).getD b 0
 lo:∀i,i<T.ds.length->T.lo<=mT T F (i+1)
def BL (T:TM) (F:List (List Int)) (h:Nat):Int:=mT T F h+(F.getD h []).sum-T.ds.getD h 0-mT T F (h+1)
theorem RC:0<=BL T F h:=by
 unfold BL
 have e:mT T F (h+1)=min T.hi (mT T F h+(F.getD h []).sum-T.ds.getD h 0):=rfl
 omega
theorem II:mT T F (h+1)<=T.hi:=by
 have e:mT T F (h+1)=min T.hi (mT T F h+(F.getD h []).sum-T.ds.getD h 0):=rfl
 omega
theorem Dd (fl:AL T) {h:Nat} (hh:h<T.ds.length):(T.cs.getD h []).length=T.co.length:=(fl.c _ (getD_mem (by rw [fl.ok.lc];exact hh))).1
theorem LO {ns:List Int} (fl:AL T) (fe:Ch T F) (ln:ns.length=T.ds.length):AX T F T.ds.length-CQ T ns=DB T ns F (mT T F) (BL T F) T.ds.length:=by
 have gs:=Lf (T:=T) (ns:=ns) (F:=F) (m:=mT T F) (bl:=BL T F) (n:=T.ds.length) fe.row (λh hh=>Dd fl hh) (λh hh=>by unfold BL;omega) T.ds.length (Nat.le_refl _)
 have z0:ns.getD T.ds.length 0=0:=by rw [List.getD_eq_getElem?_getD,List.getElem?_eq_none (by omega)];rfl
 rw [z0,Int.zero_mul] at gs
 have ef:CQ T ns=Dv T ns T.ds.length-ns.getD 0 0 * T.st:=by unfold CQ;rw [ln]
 have m0:mT T F 0=T.st:=rfl
 rw [m0] at gs
 omega
theorem RD {ns:List Int} (fe:Ch T F) (nn:∀x∈ns,0<=x):∀h,h<T.ds.length->0<=Cf (ns.getD h 0) (F.getD h []) (T.cs.getD h []) T.co/\0<=CB T.lo T.hi (ns.getD h 0) (ns.getD (h+1) 0) (mT T F (h+1))/\0<=ns.getD h 0 * BL T F h:=λh hh=>by
 have pn:0<=ns.getD h 0:=by
  by_cases hl:h<ns.length
  ·exact nn _ (getD_mem hl)
  ·rw [List.getD_eq_getElem?_getD,List.getElem?_eq_none (by omega)];exact Int.le_refl _
 exact⟨Iw (λb hb=>fe.bd h b hh hb),QO (fe.lo h hh) II,Int.mul_nonneg pn RC⟩
theorem RE {ns:List Int} (fl:AL T) (fe:Ch T F) (ln:ns.length=T.ds.length) (nn:∀x∈ns,0<=x):CQ T ns<=AX T F T.ds.length:=by
 have g:=LO fl fe ln
 have p:=Lg (T:=T) (ns:=ns) (F:=F) (m:=mT T F) (bl:=BL T F) (n:=T.ds.length) (λh hh=>by
  obtain⟨a,b,c⟩:=RD fe nn h hh
  show 0<=Cf (ns.getD h 0) (F.getD h []) (T.cs.getD h []) T.co+CB T.lo T.hi (ns.getD h 0) (ns.getD (h+1) 0) (mT T F (h+1))+ns.getD h 0 * BL T F h
  omega) T.ds.length (Nat.le_refl _)
 omega
theorem RF {f:List (List Int)}{ms:List Int} (g:Gr T f ms) (hi:∀k,k<T.ds.length->ms.getD k 0<=T.hi):∀k,k<T.ds.length->mT T f (k+1)=ms.getD k 0/\BL T f k=0:=by
 have one:∀k,k<T.ds.length->mT T f k=(if k=0 then T.st else ms.getD (k-1) 0)->mT T f (k+1)=ms.getD k 0/\BL T f k=0:=λk hk e=>by
  have m:=g.ms k (by rw [g.lm];exact hk)
  have h:=hi k hk
  have e1:mT T f (k+1)=min T.hi (mT T f k+(f.getD k []).sum-T.ds.getD k 0):=rfl
  have e2:mT T f k+(f.getD k []).sum-T.ds.getD k 0=ms.getD k 0:=by rw [e];omega
  rw [e2] at e1
  unfold BL
  omega
 intro k
 induction k with
 | zero=>intro hk;exact one 0 hk rfl
 | succ k ih=>
  intro hk
  refine one (k+1) hk ?_
  rw [if_neg (Nat.succ_ne_zero k),Nat.add_sub_cancel]
  exact(ih (by omega)).1
theorem RG {f:List (List Int)}{ms ps:List Int} (fl:AL T) (g:Gr T f ms) (o:Opt T f ms T.ds.length ps) (lo:∀k,k<T.ds.length->T.lo<=ms.getD k 0):Ch T f/\AX T f T.ds.length=CQ T ps:=by
 have gm:=RF g o.hi
 have fe:Ch T f:=⟨g.lf,λi hi=>g.row i (by rw [g.lf];exact hi),λi b hi hb=>g.bd i b (by rw [g.lf];exact hi) hb,λi hi=>by rw [(gm i hi).1];exact lo i hi⟩
 refine⟨fe,?_⟩
 have gp:=LO fl fe o.len
 have pos:∀x∈ps,0<=x:=λx hx=>by
  rcases List.mem_cons.mp (o.as x hx) with e | e
  ·omega
  ·have:=fl.o1 _ e;omega
 have zero:∀h,h<T.ds.length->DW T ps f (mT T f) (BL T f) h=0:=λh hh=>by
  have r:Cf (ps.getD h 0) (f.getD h []) (T.cs.getD h []) T.co=0:=(Le (fe.row h hh) (Dd fl hh) (λb hb=>fe.bd h b hh hb)).mpr λb hb=>gapB_zero.mpr (o.b h b hh hb)
  have m:CB T.lo T.hi (ps.getD h 0) (ps.getD (h+1) 0) (mT T f (h+1))=0:=gapM_zero.mpr ⟨λc=>by rw [(gm h hh).1];exact o.up h hh c,λc=>by rw [(gm h hh).1];exact o.dn h hh c⟩
  show Cf _ _ _ _+CB _ _ _ _ _+ps.getD h 0 * BL T f h=0
  rw [r,m,(gm h hh).2,Int.mul_zero];rfl
 have all:∀k,k<=T.ds.length->DB T ps f (mT T f) (BL T f) k=0:=by
  intro k
  induction k with
  | zero=>intro _;rfl
  | succ k ih=>
   intro hk
   show DB T ps f (mT T f) (BL T f) k+DW T ps f (mT T f) (BL T f) k=0
   rw [ih (by omega),zero k (by omega)];rfl
 rw [all _ (Nat.le_refl _)] at gp
 omega
theorem RH {T:TM} (fl:AL T) {f:List (List Int)}{ms:List Int}{h:Nat}:∀k:Nat,(∃a b,a<=h/\b<T.co.length/\Dy T f ms h a b/\T.co.getD b 0<=k)->
  ∃a b,a<=h/\b<T.co.length/\Dy T f ms h a b/\∀a' b',a'<=h->b'<T.co.length->Dy T f ms h a' b'->T.co.getD b 0<=T.co.getD b' 0:=by
 intro k
 induction k with
 | zero=>
  rintro⟨a,b,_,hb,_,z⟩
  have:=fl.o1 _ (getD_mem (d:=0) hb)
  omega
 | succ k ih=>
  rintro⟨a,b,ha,hb,may,le⟩
  by_cases c:∃a b,a<=h/\b<T.co.length/\Dy T f ms h a b/\T.co.getD b 0<=k
  ·exact ih c
  ·refine⟨a,b,ha,hb,may,λa' b' ha' hb' may'=>?_⟩
   by_cases le':T.co.getD b' 0<=k
   ·exact absurd ⟨a',b',ha',hb',may',le'⟩ c
   ·omega
structure At (T:TM) (h:Nat) (f:List (List Int)) (ms ps:List Int):Prop where
 g:Gr T f ms
 o:Opt T f ms h ps
 lo:∀j,j<h->T.lo<=ms.getD j 0
theorem RI (fl:AL T) (lh:T.lo<=T.hi) (no:AK T=none) {h:Nat} (hh:h<T.ds.length):∀(k:Nat) (f:List (List Int)) (ms ps:List Int),At T h f ms ps->(ps.getD h 0=0\/ms.getD h 0<=T.lo)->(T.lo-ms.getD h 0).toNat<=k->∃f' ms' ps',At T (h+1) f' ms' ps'/\ps'.getD (h+1) 0=0:=by
 intro k
 induction k with
 | zero=>
  intro f ms ps a z hk
  have l1:T.lo<=ms.getD h 0:=by omega
  exact⟨f,ms,ps,⟨a.g,a.o.next fl l1 (λc=>by rcases z with z | z<;>omega),λj hj=>by
   by_cases e:j=h
   ·rw [e];exact l1
   ·exact a.lo j (by omega)⟩,a.o.z (h+1) (by omega)⟩
 | succ k ih=>
  intro f ms ps a z hk
  by_cases l1:T.lo<=ms.getD h 0
  ·exact⟨f,ms,ps,⟨a.g,a.o.next fl l1 (λc=>by rcases z with z | z<;>omega),λj hj=>by
    by_cases e:j=h
    ·rw [e];exact l1
    ·exact a.lo j (by omega)⟩,a.o.z (h+1) (by omega)⟩
  ·have lm:=a.g.lm
   have hm:h<ms.length:=by omega
   obtain⟨a0,b0,ha0,hb0,may0⟩:=QK fl lh no a.g hm (by omega)
   obtain⟨x,b,hx,hb,may,best⟩:=RH fl (f:=f) (ms:=ms) (h:=h) 9 ⟨a0,b0,ha0,hb0,may0,(fl.o1 _ (getD_mem (d:=0) hb0)).2⟩
   have m1:=may.1
   have m2:=may.2
   have hm0:∃m,m=min (T.lo-ms.getD h 0) (min ((T.cs.getD x []).getD b 0-(f.getD x []).getD b 0) (Dx ms T.hi x h)):=⟨_,rfl⟩
   obtain⟨m,em⟩:=hm0
   have mp:0<m:=by omega
   obtain⟨ps',o'⟩:=a.o.step fl lh a.g hh hx hb may best mp (by omega) (by omega) (by omega)
   have g':=a.g.more (a:=x) (b:=b) (m:=m) (by rw [a.g.lf];omega) hb (by omega) (by omega)
   have rh:(Dz ms x ms.length m).getD h 0=ms.getD h 0+m:=by rw [DA hm,if_pos ⟨hx,hm⟩]
   refine ih _ _ _ ⟨g',o',λj hj=>?_⟩ (.inr (by rw [rh];omega)) (by rw [rh];omega)
   rw [DA (by omega)]
   have:=a.lo j hj
   split<;>omega
def De (T:TM):List (List Int):=T.ds.map λ_=>T.co.map λ_=>0
def D0 (T:TM):Nat->Int
 | 0=>T.st-T.ds.getD 0 0
 | k+1=>D0 T k-T.ds.getD (k+1) 0
theorem E3 {α:Type}{l:List α}{b:Nat}:(l.map λ_=>(0:Int)).getD b 0=0:=by
 rw [List.getD_eq_getElem?_getD,List.getElem?_map]
 cases l[b]? <;>rfl
theorem LP {α:Type}:∀ {l:List α},(l.map λ_=>(0:Int)).sum=0
 | []=>rfl
 | _::r=>by rw [List.map_cons,List.sum_cons,LP (l:=r)];rfl
theorem E4 {i:Nat} (h:i<T.ds.length):(De T).getD i []=T.co.map λ_=>0:=by
 unfold De
 rw [List.getD_eq_getElem?_getD,List.getElem?_map,List.getElem?_eq_getElem h];rfl
theorem E5 {g:Nat->Int}{n k:Nat} (h:k<n):((List.range n).map g).getD k 0=g k:=by
 rw [List.getD_eq_getElem?_getD,List.getElem?_map,List.getElem?_range h];rfl
theorem RJ (fl:AL T) (sh:T.st<=T.hi) (n0:0<T.ds.length):At T 0 (De T) ((List.range T.ds.length).map (D0 T)) (T.ds.map λ_=>0):=by
 have dp:∀k,0<=T.ds.getD k 0:=λk=>by
  by_cases hk:k<T.ds.length
  ·exact(fl.d _ (getD_mem hk)).1
  ·rw [List.getD_eq_getElem?_getD,List.getElem?_eq_none (by omega)];exact Int.le_refl _
 have zm:∀k,D0 T k<=T.hi:=by
  intro k
  induction k with
  | zero=>have:=dp 0;show T.st-T.ds.getD 0 0<=T.hi;omega
  | succ k ih=>have:=dp (k+1);show D0 T k-T.ds.getD (k+1) 0<=T.hi;omega
 have pz:∀k,(T.ds.map λ_=>(0:Int)).getD k 0=0:=λk=>E3
 refine⟨⟨?_,λi hi=>?_,λi b hi hb=>?_,?_,λk hk=>?_⟩,⟨?_,λx hx=>?_,λk _=>pz k,λk b hk hb=>⟨λc=>?_,λc=>?_⟩,λk hk=>absurd hk (Nat.not_lt_zero _),λk hk=>absurd hk (Nat.not_lt_zero _),λk hk=>?_,λk _ hk=>?_⟩,λj hj=>absurd hj (Nat.not_lt_zero _)⟩
 ·unfold De;rw [List.length_map]
 ·have hi':i<T.ds.length:=by unfold De at hi;rw [List.length_map] at hi;exact hi
  rw [E4 hi',List.length_map]
 ·have hi':i<T.ds.length:=by unfold De at hi;rw [List.length_map] at hi;exact hi
  rw [E4 hi',E3]
  have hc:=Dd fl hi'
  have:=(fl.c _ (getD_mem (d:=[]) (by rw [fl.ok.lc];exact hi'))).2 _ (getD_mem (l:=T.cs.getD i []) (d:=0) (by rw [hc];exact hb))
  omega
 ·rw [List.length_map,List.length_range]
 ·have hk':k<T.ds.length:=by rw [List.length_map,List.length_range] at hk;exact hk
  rw [E5 hk',E4 hk',LP]
  cases k with
  | zero=>rw [if_pos rfl];show T.st-_=_;omega
  | succ k=>rw [if_neg (by omega),Nat.add_sub_cancel,E5 (by omega)];show D0 T k-_=_;omega
 ·rw [List.length_map]
 ·obtain⟨_,_,rfl⟩:=List.mem_map.mp hx;exact List.mem_cons_self
 ·rw [pz] at c
  have:=fl.o1 _ (getD_mem (d:=0) hb)
  omega
 ·rw [E4 hk,E3]
 ·rw [E5 hk];exact zm k
 ·rw [E5 hk,E5 (by omega)]
  have:=dp (k+1)
  show D0 T k-T.ds.getD (k+1) 0<=D0 T k
  omega
theorem LQ (fl:AL T) (lh:T.lo<=T.hi) (sh:T.st<=T.hi) (n0:0<T.ds.length) (no:AK T=none):∃f ps,Ch T f/\ps.length=T.ds.length/\Asked T ps/\AX T f T.ds.length=CQ T ps:=by
 have all:∀h,h<=T.ds.length->∃f ms ps,At T h f ms ps/\ps.getD h 0=0:=by
  intro h
  induction h with
  | zero=>intro _;exact⟨_,_,_,RJ fl sh n0,E3⟩
  | succ h ih=>
   intro hh
   obtain⟨f,ms,ps,a,z⟩:=ih (by omega)
   exact RI fl lh no (by omega) _ f ms ps a (.inl z) (Nat.le_refl _)
 obtain⟨f,ms,ps,a,_⟩:=all _ (Nat.le_refl _)
 obtain⟨fe,e⟩:=RG fl a.g a.o a.lo
 exact⟨f,ps,fe,a.o.len,a.o.as,e⟩
theorem LR (fl:AL T) (lh:T.lo<=T.hi) (sh:T.st<=T.hi) (n0:0<T.ds.length) (no:AK T=none) {c:Int}{qs:List Int} (hf:CS T c qs):(∃f,Ch T f/\AX T f T.ds.length=c)/\∀F,Ch T F->c<=AX T F T.ds.length:=by
 have pos:∀ {rs:List Int},Asked T rs->∀x∈rs,0<=x:=λa x hx=>by
  rcases List.mem_cons.mp (a x hx) with e | e
  ·omega
  ·have:=fl.o1 _ e;omega
 have low:∀F,Ch T F->c<=AX T F T.ds.length:=λF fe=>by rw [hf.val];exact RE fl fe hf.len (pos hf.as)
 obtain⟨f,ps,fe,l,as,e⟩:=LQ fl lh sh n0 no
 refine⟨⟨f,fe,?_⟩,low⟩
 have:=hf.top ps l as
 have:=low f fe
 omega
end MF
end
section
namespace MF
open PySem PySem.Spec PyProof.Rows L2
variable {L M : List (Int × Int)} {T : TM} {F : List (List Int)}
def AttP:List (Int×Int)->Int×Int->Prop
 | [],q=>q=(0,0)
 | c::L,q=>∃(x:Int) (q':Int×Int),0<=x/\x<=c.2/\AttP L q'/\q=(x+q'.1,c.1 * x+q'.2)
theorem AttP.perm (p:L.Perm M):∀q,AttP L q->AttP M q:=by
 induction p with
 | nil=>exact λ_ h=>h
 | cons c _ ih=>rintro q ⟨x,q',a,b,h,e⟩;exact⟨x,q',a,b,ih _ h,e⟩
 | swap c d L=>
  rintro q ⟨x,q',a,b,⟨y,q2,a2,b2,h,rfl⟩,rfl⟩
  refine⟨y,_,a2,b2,⟨x,q2,a,b,h,rfl⟩,?_⟩
  show(x+(y+q2.1),d.1 * x+(c.1 * y+q2.2))=(y+(x+q2.1),c.1 * y+(d.1 * x+q2.2))
  congr 1<;>omega
 | trans _ _ ih1 ih2=>exact λq h=>ih2 q (ih1 q h)
def AY:List (Int×Int)->Int->Int
 | [],_=>0
 | c::L,a=>c.1 * min a c.2+AY L (a-min a c.2)
def Az (L:List (Int×Int)):Int:=(L.map (·.2)).sum
theorem IJ:∀ {L:List (Int×Int)},(∀c∈L,0<=c.2)->AY L 0=0
 | [],_=>rfl
 | c::L,h=>by
  have h0:=h c List.mem_cons_self
  show c.1 * min 0 c.2+AY L (0-min 0 c.2)=0
  rw [show min 0 c.2=0 from by omega,Int.mul_zero,Int.sub_zero,IJ (λd hd=>h d (List.mem_cons_of_mem _ hd))];rfl
theorem E6:∀ {L:List (Int×Int)},(∀c∈L,0<=c.2)->0<=Az L
 | [],_=>Int.le_refl _
 | c::L,h=>by
  have:=E6 (L:=L) λd hd=>h d (List.mem_cons_of_mem _ hd)
  have:=h c List.mem_cons_self
  show 0<=c.2+Az L
  omega
theorem LS:∀ {L:List (Int×Int)}{a:Int},(∀c∈L,0<=c.2)->0<=a->a<=Az L->AttP L (a,AY L a)
 | [],a,_,h0,h1=>by
  have:a=0:=by have h2:a<=0:=h1;omega
  subst this;rfl
 | c::L,a,hp,h0,h1=>by
  have hc:=hp c List.mem_cons_self
  have h1':a<=c.2+Az L:=h1
  have hm:=E6 (L:=L) λd hd=>hp d (List.mem_cons_of_mem _ hd)
  refine⟨min a c.2,(a-min a c.2,AY L (a-min a c.2)),by omega,by omega,LS (λd hd=>hp d (List.mem_cons_of_mem _ hd)) (by omega) (by omega),?_⟩
  show(a,_)=(min a c.2+(a-min a c.2),_)
  congr 1;omega
def DD (p:Int):List (Int×Int)->Int
 | []=>0
 | c::L=>(if c.1<p then(c.1-p) * c.2 else 0)+DD p L
theorem LT {p:Int}:∀ {L:List (Int×Int)}{q:Int×Int},AttP L q->p * q.1+DD p L<=q.2
 | [],q,h=>by have e:q=(0,0):=h;subst e;show p * 0+0<=0;omega
 | c::L,q,⟨x,q',a,b,h,e⟩=>by
  have ih:=LT (p:=p) h
  subst e
  show p *(x+q'.1)+((if c.1<p then(c.1-p) * c.2 else 0)+DD p L)<=c.1 * x+q'.2
  rw [Int.mul_add]
  have key:(if c.1<p then(c.1-p) * c.2 else 0)<=c.1 * x-p * x:=by
   rw [<-Int.sub_mul]
   split
   ·rename_i lt
    have h:(p-c.1) * x<=(p-c.1) * c.2:=Int.mul_le_mul_of_nonneg_left b (by omega)
    have e1:(c.1-p) * c.2= -((p-c.1) * c.2):=by rw [<-Int.neg_mul];congr 1;omega
    have e2:(c.1-p) * x= -((p-c.1) * x):=by rw [<-Int.neg_mul];congr 1;omega
    omega
   ·exact Int.mul_nonneg (by omega) a
  omega
theorem LU {p:Int}:∀ {L:List (Int×Int)},(∀c∈L,p<=c.1)->DD p L=0
 | [],_=>rfl
 | c::L,h=>by
  show(if c.1<p then _ else 0)+DD p L=0
  rw [if_neg (by have:=h c List.mem_cons_self;omega),LU λd hd=>h d (List.mem_cons_of_mem _ hd)];rfl
theorem LV:∀ {L:List (Int×Int)}{a:Int},L.Pairwise (λc d=>c.1<=d.1)->(∀c∈L,0<=c.2)->0<=a->a<=Az L->∃p,AY L a=p * a+DD p L/\(∀x:Int,(∀c∈L,x<=c.1)->L≠ []->x<=p)
 | [],a,_,_,h0,h1=>⟨0,by have h2:a<=0:=h1;show(0:Int)=0 * a+0;omega,λx _ n=>absurd rfl n⟩
 | c::L,a,hs,hp,h0,h1=>by
  obtain⟨hc,hL⟩:=List.pairwise_cons.mp hs
  have hc2:=hp c List.mem_cons_self
  have hp':∀d∈L,0<=d.2:=λd hd=>hp d (List.mem_cons_of_mem _ hd)
  have h1':a<=c.2+Az L:=h1
  by_cases le:a<=c.2
  ·refine⟨c.1,?_,λx hx _=>hx c List.mem_cons_self⟩
   show c.1 * min a c.2+AY L (a-min a c.2)=c.1 * a+((if c.1<c.1 then _ else 0)+DD c.1 L)
   rw [show min a c.2=a from by omega,Int.sub_self,IJ hp',if_neg (Int.lt_irrefl _),LU hc];omega
  ·obtain⟨p,e,lo⟩:=LV (a:=a-c.2) hL hp' (by omega) (by omega)
   have Ln:L≠ []:=λz=>by subst z;have h3:a<=c.2+0:=h1';omega
   have cp:=lo c.1 hc Ln
   refine⟨p,?_,λx hx _=>Int.le_trans (hx c List.mem_cons_self) cp⟩
   show c.1 * min a c.2+AY L (a-min a c.2)=p * a+((if c.1<p then(c.1-p) * c.2 else 0)+DD p L)
   rw [show min a c.2=c.2 from by omega,e,Int.mul_sub]
   by_cases lt:c.1<p
   ·rw [if_pos lt,Int.sub_mul];omega
   ·rw [if_neg lt,show c.1=p from by omega];omega
def Bi (L:List (Int×Int)):List (Int×Int):=(List.range ((Az L).toNat+1)).map fun(a:Nat)=>((a:Int),AY L (a:Int))
theorem RK:(Bi L).length=(Az L).toNat+1:=by unfold Bi;simp
theorem LW {k:Nat} (h:k<(Az L).toNat+1):(Bi L)[k]? =some ((k:Int),AY L (k:Int)):=by unfold Bi;rw [List.getElem?_map,List.getElem?_range h];rfl
theorem RL {g:Nat->Int}:∀ {n k:Nat},k<n->AQ ((List.range n).map fun(a:Nat)=>((a:Int),g a)) (k:Int)=some (g k):=by
 intro n
 induction n with
 | zero=>intro k h;omega
 | succ n ih=>
  intro k h
  rw [List.range_succ,List.map_append]
  by_cases e:k=n
  ·subst e
   have no:AQ ((List.range k).map fun(a:Nat)=>((a:Int),g a)) (k:Int)=none:=by
    cases z:AQ ((List.range k).map fun(a:Nat)=>((a:Int),g a)) (k:Int) with
    | none=>rfl
    | some w=>
     obtain⟨a,ha,ea⟩:=List.mem_map.mp (DY z)
     have h1:=List.mem_range.mp ha
     have h2:(a:Int)=(k:Int):=congrArg Prod.fst ea
     omega
   show AQ (_++[((k:Int),g k)]) _=_
   rw [Iy no,if_pos rfl]
  ·have no:AQ ((List.range n).map fun(a:Nat)=>((a:Int),g a)) (n:Int)=none:=by
    cases z:AQ ((List.range n).map fun(a:Nat)=>((a:Int),g a)) (n:Int) with
    | none=>rfl
    | some w=>
     obtain⟨a,ha,ea⟩:=List.mem_map.mp (DY z)
     have h1:=List.mem_range.mp ha
     have h2:(a:Int)=(n:Int):=congrArg Prod.fst ea
     omega
   show AQ (_++[((n:Int),g n)]) _=_
   rw [Iy no,if_neg (by omega)]
   exact ih (by omega)
theorem LX:∀ {L:List (Int×Int)}{q:Int×Int},AttP L q->0<=q.1/\q.1<=Az L
 | [],q,h=>by have e:q=(0,0):=h;subst e;exact⟨Int.le_refl _,Int.le_refl _⟩
 | c::L,q,⟨x,q',a,b,h,e⟩=>by
  have:=LX h
  subst e
  show 0<=x+q'.1/\x+q'.1<=c.2+Az L
  omega
theorem RM (p:L.Perm M):Az L=Az M:=by
 induction p with
 | nil=>rfl
 | cons c _ ih=>show c.2+Az _=c.2+Az _;rw [ih]
 | swap c d L=>show d.2+(c.2+Az L)=c.2+(d.2+Az L);omega
 | trans _ _ h1 h2=>rw [h1,h2]
theorem Mn.costs (pm:M.Perm L) (hs:M.Pairwise λc d=>c.1<=d.1) (hp:∀c∈L,0<=c.2):Mn (AttP L) (Bi M):=by
 have hpM:∀c∈M,0<=c.2:=λc hc=>hp c (pm.mem_iff.mp hc)
 have m0:=E6 hpM
 refine⟨λq hq=>?_,λq hq=>?_,?_⟩
 ·unfold Bi at hq
  obtain⟨a,ha,rfl⟩:=List.mem_map.mp hq
  have:=List.mem_range.mp ha
  exact AttP.perm pm _ (LS hpM (by omega) (by omega))
 ·have hb:=LX hq
  rw [<-RM pm] at hb
  have hqM:=AttP.perm pm.symm _ hq
  obtain⟨p,e,_⟩:=LV hs hpM hb.1 hb.2
  refine⟨AY M q.1,?_,by rw [e];exact LT hqM⟩
  have:=RL (g:=λa=>AY M (a:Int)) (n:=(Az M).toNat+1) (k:=q.1.toNat) (by omega)
  rw [show((q.1.toNat:Nat):Int)=q.1 from by omega] at this
  exact this
 ·unfold Bi
  rw [List.map_map]
  show List.Pairwise (· ≠ ·) _
  refine List.Pairwise.map _ (λa b hab h=>?_) (List.nodup_range (n:=(Az M).toNat+1))
  exact hab (by have h':(a:Int)=(b:Int):=h;omega)
theorem LY:∀ {co cs:List Int},co.length=cs.length->∀q,AttP (co.zip cs) q↔ ∃r:List Int,r.length=co.length/\(∀b,b<co.length->0<=r.getD b 0/\r.getD b 0<=cs.getD b 0)/\q=(r.sum,Bm r co)
 | [],[],_,q=>by
  constructor
  ·intro h
   have e:q=(0,0):=h
   exact⟨[],rfl,λb hb=>absurd hb (Nat.not_lt_zero _),e⟩
  ·rintro⟨r,hr,_,e⟩
   have:r=[]:=List.length_eq_zero_iff.mp hr
   subst this
   exact e
 | o::co,c::cs,h,q=>by
  have ih:=LY (co:=co) (cs:=cs) (by simpa using h)
  constructor
  ·rintro⟨x,q',a,b,hq,rfl⟩
   obtain⟨r,hr,bd,e⟩:=(ih q').mp hq
   refine⟨x::r,by simp [hr],λk hk=>?_,?_⟩
   ·cases k with
    | zero=>exact⟨a,b⟩
    | succ k=>simpa using bd k (by simpa using hk)
   ·rw [e];rfl
  ·rintro⟨r,hr,bd,rfl⟩
   cases r with
   | nil=>simp at hr
   | cons x r=>
    have b0:=bd 0 (by simp)
    refine⟨x,(r.sum,Bm r co),by simpa using b0.1,by simpa using b0.2,(ih _).mpr ⟨r,by simpa using hr,λk hk=>by simpa using bd (k+1) (by simpa using hk),rfl⟩,rfl⟩
def RowT (T:TM) (F:List (List Int)):Prop:=F.length=T.ds.length/\∀i,i<T.ds.length->(F.getD i []).length=T.co.length/\∀b,b<T.co.length->0<=(F.getD i []).getD b 0/\(F.getD i []).getD b 0<=(T.cs.getD i []).getD b 0
def LvT (T:TM) (i:Nat) (q:Int×Int):Prop:=∃F,RowT T F/\(∀j,j<i->T.lo<=mT T F (j+1))/\q=(mT T F i,AX T F i)
theorem IK {i:Nat}{r:List Int}:∀j,j<=i->mT T (F.set i r) j=mT T F j
 | 0,_=>rfl
 | j+1,h=>by
  show min T.hi _=min T.hi _
  rw [IK j (by omega)]
  have e:(F.set i r).getD j []=F.getD j []:=by rw [List.getD_eq_getElem?_getD,List.getElem?_set_ne (by omega),List.getD_eq_getElem?_getD]
  rw [e]
theorem RowT.set (h:RowT T F) {i:Nat}{r:List Int} (hi:i<T.ds.length) (lr:r.length=T.co.length) (bd:∀b,b<T.co.length->0<=r.getD b 0/\r.getD b 0<=(T.cs.getD i []).getD b 0):RowT T (F.set i r):=by
 refine⟨by rw [List.length_set];exact h.1,λk hk=>?_⟩
 by_cases e:k=i
 ·subst e
  have:(F.set k r).getD k []=r:=by rw [List.getD_eq_getElem?_getD,List.getElem?_set_self (by rw [h.1];exact hk)];rfl
  rw [this];exact⟨lr,bd⟩
 ·have:(F.set i r).getD k []=F.getD k []:=by rw [List.getD_eq_getElem?_getD,List.getElem?_set_ne (λz=>e z.symm),List.getD_eq_getElem?_getD]
  rw [this];exact h.2 k hk
theorem RN (fl:AL T):RowT T (De T):=by
 refine⟨by unfold De;rw [List.length_map],λi hi=>?_⟩
 rw [E4 hi,List.length_map]
 refine⟨rfl,λb hb=>?_⟩
 rw [E3]
 have hc:=Dd fl hi
 have:=(fl.c _ (getD_mem (d:=[]) (by rw [fl.ok.lc];exact hi))).2 _ (getD_mem (l:=T.cs.getD i []) (d:=0) (by rw [hc];exact hb))
 omega
theorem LvT.zero (fl:AL T) (q:Int×Int):LvT T 0 q↔q=(T.st,0):=
 ⟨fun⟨_,_,_,e⟩=>e,λe=>⟨De T,RN fl,λj hj=>absurd hj (Nat.not_lt_zero _),e⟩⟩
theorem Mn.hourT (fl:AL T) {i:Nat} (hi:i<T.ds.length) {got amt more:List (Int×Int)} (m:Mn (LvT T i) got) (ma:Mn (AttP (T.co.zip (T.cs.getD i []))) amt) (m2:Mn (LsL T.lo T.hi (T.ds.getD i 0) got amt got.length 0) more):Mn (LvT T (i+1)) more:=by
 have ar:=LY (co:=T.co) (cs:=T.cs.getD i []) (Dd fl hi).symm
 refine⟨λq hq=>?_,λq hq=>?_,m2.nd⟩
 ·obtain⟨i',j',g,a,h1,h2,h3,h4,h5⟩:=m2.snd q hq
  obtain⟨F,f1,f2,f3⟩:=m.snd g (List.mem_of_getElem? h1)
  obtain⟨r,r1,r2,r3⟩:=(ar a).mp (ma.snd a (List.mem_of_getElem? h2))
  have lF:i<F.length:=by rw [f1.1];exact hi
  have er:(F.set i r).getD i []=r:=by rw [List.getD_eq_getElem?_getD,List.getElem?_set_self lF];rfl
  have em:mT T (F.set i r) (i+1)=min T.hi (g.1+a.1-T.ds.getD i 0):=by
   show min T.hi (mT T (F.set i r) i+((F.set i r).getD i []).sum-T.ds.getD i 0)=_
   rw [IK i (Nat.le_refl _),er,f3,r3]
  refine⟨F.set i r,f1.set hi r1 r2,λj hj=>?_,?_⟩
  ·by_cases e:j=i
   ·subst e;rw [em];exact h3
   ·rw [IK (j+1) (by omega)];exact f2 j (by omega)
  ·have ec:AX T (F.set i r) (i+1)=g.2+a.2:=by
    show AX T (F.set i r) i+Bm ((F.set i r).getD i []) T.co=_
    rw [Lm i (Nat.le_refl _),er,f3,r3]
   rw [h4,em,ec]
 ·obtain⟨F,f1,f2,f3⟩:=hq
  obtain⟨w,hw,le⟩:=m.cmp (mT T F i,AX T F i) ⟨F,f1,λj hj=>f2 j (by omega),rfl⟩
  obtain⟨w2,hw2,le2⟩:=ma.cmp ((F.getD i []).sum,Bm (F.getD i []) T.co) ((ar _).mpr ⟨F.getD i [],(f1.2 i hi).1,(f1.2 i hi).2,rfl⟩)
  obtain⟨x,hx,ex⟩:=List.mem_iff_getElem.mp (DY hw)
  obtain⟨y,hy,ey⟩:=List.mem_iff_getElem.mp (DY hw2)
  have up:=f2 i (by omega)
  obtain⟨w3,hw3,le3⟩:=m2.cmp (mT T F (i+1),w+w2) ⟨x,y,(mT T F i,w),((F.getD i []).sum,w2),by rw [List.getElem?_eq_getElem hx,ex],by rw [List.getElem?_eq_getElem hy,ey],up,rfl,.inl hx⟩
  refine⟨w3,by rw [f3];exact hw3,?_⟩
  rw [f3]
  show w3<=AX T F i+Bm (F.getD i []) T.co
  have l1:w<=AX T F i:=le
  have l2:w2<=Bm (F.getD i []) T.co:=le2
  have l3:w3<=w+w2:=le3
  omega
theorem RowT.fe (h:RowT T F) (lo:∀j,j<T.ds.length->T.lo<=mT T F (j+1)):Ch T F:=⟨h.1,λi hi=>(h.2 i hi).1,λi b hi hb=>(h.2 i hi).2 b hb,lo⟩
theorem RO (fl:AL T) (h1:T.lo<=T.st) (h2:T.lo<=T.hi) (fe:Ch T F):AK T=none:=by
 have spr:IH T (λj=>(F.getD j []).sum) (λj=>(T.cs.getD j []).sum-(F.getD j []).sum):=⟨λj _=>by omega,λj hj=>by
  have:=Gc (xs:=F.getD j []) (ys:=T.cs.getD j []) (by rw [fe.row j hj,Dd fl hj]) λb=>by
   by_cases hb:b<T.co.length
   ·exact(fe.bd j b hj hb).2
   ·rw [LG (by rw [fe.row j hj];omega),LG (by rw [Dd fl hj];omega)];exact Int.le_refl _
  omega⟩
 have em:∀j,xM T.hi T.st (λj=>(F.getD j []).sum) (dT T) (λ_=>0) j=mT T F j:=by
  intro j
  induction j with
  | zero=>rfl
  | succ j ih=>
   show min T.hi (xM T.hi T.st _ (dT T) _ j+((F.getD j []).sum+0)-T.ds.getD j 0)=min T.hi (mT T F j+(F.getD j []).sum-T.ds.getD j 0)
   rw [ih,Int.add_zero]
 have xo:LM T.lo T.hi T.st (λj=>(F.getD j []).sum) (dT T) (λj=>(T.cs.getD j []).sum-(F.getD j []).sum) (λ_=>0) T.ds.length:=λi hi=>⟨Int.le_refl _,spr.pos i hi,by rw [em];exact fe.lo i hi⟩
 have xb:=RB spr h1 xo
 refine(Rz fl.ok.lc h1 h2).mpr ⟨xb T.ds.length 0 (by omega),λj h3 h4=>?_⟩
 have:=xb (T.ds.length-j) j (by omega)
 rw [em] at this
 cases j with
 | zero=>omega
 | succ j=>exact Int.le_trans this II
theorem RP (fl:AL T) (h1:T.lo<=T.st) (sh:T.st<=T.hi) (n0:0<T.ds.length) {t:List (Int×Int)} (m:Mn (LvT T T.ds.length) t):
  (AK T≠none->t=[])/\(AK T=none->t≠ []/\∀c qs,CS T c qs->∀w,w∈t.map (·.2)->(∀x∈t.map (·.2),w<=x)->w=c):=by
 have lh:T.lo<=T.hi:=by omega
 have tofe:∀q,LvT T T.ds.length q->∃F,Ch T F/\q.2=AX T F T.ds.length:=λq ⟨F,r,lo,e⟩=>⟨F,r.fe lo,by rw [e]⟩
 refine⟨λno=>?_,λno=>?_⟩
 ·cases t with
  | nil=>rfl
  | cons q r=>
   obtain⟨F,fe,_⟩:=tofe q (m.snd q List.mem_cons_self)
   exact absurd (RO fl h1 lh fe) no
 ·obtain⟨f,ps,fe,l,as,e⟩:=LQ fl lh sh n0 no
  have lv:LvT T T.ds.length (mT T f T.ds.length,AX T f T.ds.length):=⟨f,⟨fe.len,λi hi=>⟨fe.row i hi,λb hb=>fe.bd i b hi hb⟩⟩,fe.lo,rfl⟩
  obtain⟨w0,hw0,le0⟩:=m.cmp _ lv
  have hm:=DY hw0
  refine⟨λz=>(by rw [z] at hm;cases hm),λc qs hf w hw hall=>?_⟩
  obtain⟨⟨g,feg,eg⟩,low⟩:=LR fl lh sh n0 no hf
  have lvg:LvT T T.ds.length (mT T g T.ds.length,AX T g T.ds.length):=⟨g,⟨feg.len,λi hi=>⟨feg.row i hi,λb hb=>feg.bd i b hi hb⟩⟩,feg.lo,rfl⟩
  obtain⟨w1,hw1,le1⟩:=m.cmp _ lvg
  have le1':w1<=AX T g T.ds.length:=le1
  have:=hall w1 (List.mem_map.mpr ⟨_,DY hw1,rfl⟩)
  obtain⟨q,hq,rfl⟩:=List.mem_map.mp hw
  obtain⟨F,fe2,e2⟩:=tofe q (m.snd q hq)
  have:=low F fe2
  omega
end MF
end
section
namespace L2
open PySem PySem.Spec PyProof.Rows PySem.W
variable {i j : Nat} {vs : List Value} {L : Addr} {X : Cx} {H : Hp} {Ts : List Addr}
def Ci {α:Type} (lt:Nat->Nat->Bool):KasT α->α
 | .ret a=>a
 | .ask i j k=>Ci lt (k (lt i j))
def kIn {α:Type} (n:Nat):KasT α->Bool
 | .ret _=>true
 | .ask i j k=>decide (i<n) && decide (j<n) && kIn n (k true) && kIn n (k false)
theorem LZ {α:Type}{n:Nat}{k:Bool->KasT α} (h:kIn n (.ask i j k)=true):i<n/\j<n/\∀b,kIn n (k b)=true:=by
 unfold kIn at h
 simp only [Bool.and_eq_true,decide_eq_true_eq] at h
 exact⟨h.1.1.1,h.1.1.2,λb=>by cases b;exact h.2;exact h.1.2⟩
theorem L0 {α:Type}{n:Nat}{lt:Nat->Nat->Bool}{cmp:Nat->Nat->(Bool->Shared->Prop)->Shared->Prop}{s:Shared} (hc:∀i j C,i<n->j<n->C (lt i j) s->cmp i j C s):
  ∀ {t:KasT α}{Q:α->Shared->Prop},kIn n t=true->Q (Ci lt t) s->t.kasWp cmp Q s
 | .ret _,_,_,h=>h
 | .ask i j k,_,hi,h=>by
  obtain⟨h1,h2,h3⟩:=LZ hi
  exact hc i j _ h1 h2 (L0 hc (h3 _) h)
theorem L1 {α:Type}{n:Nat}{lt lt':Nat->Nat->Bool} (hc:∀i j,i<n->j<n->lt i j=lt' i j):∀ {t:KasT α},kIn n t=true->Ci lt t=Ci lt' t
 | .ret _,_=>rfl
 | .ask i j k,hi=>by
  obtain⟨h1,h2,h3⟩:=LZ hi
  show Ci lt (k (lt i j))=Ci lt' (k (lt' i j))
  rw [hc i j h1 h2]
  exact L1 hc (h3 _)
def E7:Nat->Nat->List (List Nat)
 | 0,_=>[[]]
 | k+1,n=>(E7 k n).flatMap λr=>(List.range n).map λx=>x::r
theorem L3:∀ {k n:Nat}{r:List Nat},r.length=k->(∀x∈r,x<n)->r∈E7 k n
 | 0,_,[],_,_=>by simp [E7]
 | k+1,n,x::r,hl,h=>by
  unfold E7
  rw [List.mem_flatMap]
  exact⟨r,L3 (by simpa using hl) (λy hy=>h y (by simp [hy])),by rw [List.mem_map];exact⟨x,by rw [List.mem_range];exact h x (by simp),rfl⟩⟩
def Gk (r:List Nat):List Nat->Bool
 | []=>true
 | x::l=>(l.all λy=>decide (r.getD x 0<=r.getD y 0)) && Gk r l
theorem L7 {r:List Nat}:∀ {l:List Nat},Gk r l=true->l.Pairwise λx y=>r.getD x 0<=r.getD y 0
 | [],_=> .nil
 | x::l,h=>by
  unfold Gk at h
  simp only [Bool.and_eq_true,List.all_eq_true,decide_eq_true_eq] at h
  exact .cons h.1 (L7 h.2)
def E8 (n:Nat):Bool:=kIn n (kas_sort n) &&(E7 n n).all λr=>(Ci (λi j=>decide (r.getD i 0<r.getD j 0)) (kas_sort n)).toList.isPerm (List.range n) && Gk r (Ci (λi j=>decide (r.getD i 0<r.getD j 0)) (kas_sort n)).toList
theorem RQ:E8 2=true:=by decide+kernel
theorem RR:E8 3=true:=by decide+kernel
theorem RS:E8 4=true:=by decide+kernel
theorem RT {n:Nat} (h2:2<=n) (h4:n<=4):E8 n=true:=by
 have:n=2\/n=3\/n=4:=by omega
 rcases this with e | e | e<;>subst e
 ·exact RQ
 ·exact RR
 ·exact RS
theorem IL {p q:Nat->Bool}:∀ {l:List Nat},(∀x∈l,p x=true->q x=true)->(∃x∈l,q x=true/\p x=false)->l.countP p<l.countP q
 | [],_,⟨_,h,_⟩=>by cases h
 | a::l,h,⟨x,hx,h1,h2⟩=>by
  have mo:l.countP p<=l.countP q:=List.countP_mono_left λy hy hp=>h y (by simp [hy]) hp
  rw [List.countP_cons,List.countP_cons]
  rcases List.mem_cons.mp hx with e | e
  ·subst e
   rw [h1,h2];simp;omega
  ·have ih:=IL (p:=p) (q:=q) (l:=l) (λy hy=>h y (by simp [hy])) ⟨x,e,h1,h2⟩
   have ha:=h a (by simp)
   cases hp:p a<;>cases hq:q a<;>simp_all<;>omega
def Bn (c d:Int×Int):Bool:=decide (c.1<d.1) || (decide (c.1=d.1) && decide (c.2<d.2))
theorem E9 {c d:Int×Int}:Bn c d=true↔(c.1<d.1\/(c.1=d.1/\c.2<d.2)):=by unfold Bn;simp
def Dg (cs:List (Int×Int)) (i:Nat):Nat:=(List.range cs.length).countP λk=>Bn (cs.getD k (0,0)) (cs.getD i (0,0))
theorem RU {cs:List (Int×Int)} (hi:i<cs.length):Dg cs i<cs.length:=by
 have:Dg cs i<(List.range cs.length).countP λ_=>true:=IL (λ_ _ _=>rfl) ⟨i,by rw [List.mem_range];exact hi,rfl,by
  cases h:Bn (cs.getD i (0,0)) (cs.getD i (0,0))
  ·rfl
  ·rw [E9] at h;omega⟩
 simpa using this
theorem L8 {cs:List (Int×Int)} (hi:i<cs.length) (hj:j<cs.length):Bn (cs.getD i (0,0)) (cs.getD j (0,0))=decide (Dg cs i<Dg cs j):=by
 cases h:Bn (cs.getD i (0,0)) (cs.getD j (0,0))
 ·symm
  rw [decide_eq_false_iff_not,Nat.not_lt]
  refine List.countP_mono_left λk _ hk=>?_
  have h':¬(Bn (cs.getD i (0,0)) (cs.getD j (0,0))=true):=by rw [h];simp
  rw [E9] at h' hk ⊢
  omega
 ·symm
  rw [decide_eq_true_eq]
  refine IL (λk _ hk=>?_) ⟨i,by rw [List.mem_range];exact hi,h,?_⟩
  ·rw [E9] at h hk ⊢
   omega
  ·cases h3:Bn (cs.getD i (0,0)) (cs.getD i (0,0))
   ·rfl
   ·rw [E9] at h3;omega
theorem RV {cs:List (Int×Int)} (h2:2<=cs.length) (h4:cs.length<=4):
  kIn cs.length (kas_sort cs.length)=true/\(Ci (λi j=>Bn (cs.getD i (0,0)) (cs.getD j (0,0))) (kas_sort cs.length)).toList.Perm (List.range cs.length)/\
   (Ci (λi j=>Bn (cs.getD i (0,0)) (cs.getD j (0,0))) (kas_sort cs.length)).toList.Pairwise λx y=>(cs.getD x (0,0)).1<=(cs.getD y (0,0)).1:=by
 have hk:=RT h2 h4
 unfold E8 at hk
 rw [Bool.and_eq_true] at hk
 obtain⟨k1,k2⟩:=hk
 rw [List.all_eq_true] at k2
 have key:=k2 ((List.range cs.length).map (Dg cs)) (L3 (by simp) (λx hx=>by
  obtain⟨i,hi,e⟩:=List.mem_map.mp hx
  rw [<-e];exact RU (List.mem_range.mp hi)))
 have gt:∀i,i<cs.length->((List.range cs.length).map (Dg cs)).getD i 0=Dg cs i:=λi hi=>by
  rw [List.getD_eq_getElem?_getD,List.getElem?_map,List.getElem?_range hi];rfl
 have e:Ci (λi j=>decide (((List.range cs.length).map (Dg cs)).getD i 0<((List.range cs.length).map (Dg cs)).getD j 0)) (kas_sort cs.length)=Ci (λi j=>Bn (cs.getD i (0,0)) (cs.getD j (0,0))) (kas_sort cs.length):=
  L1 (n:=cs.length) (λi j hi hj=>by rw [gt i hi,gt j hj,L8 hi hj]) k1
 rw [e,Bool.and_eq_true] at key
 obtain⟨p,pw⟩:=key
 have p':=List.isPerm_iff.mp p
 refine⟨k1,p',?_⟩
 refine(L7 pw).imp_of_mem λ{x y} hx hy h=>?_
 have hx':=List.mem_range.mp (p'.mem_iff.mp hx)
 have hy':=List.mem_range.mp (p'.mem_iff.mp hy)
 rw [gt x hx',gt y hy'] at h
 have n1:¬(Bn (cs.getD y (0,0)) (cs.getD x (0,0))=true):=by rw [L8 hy' hx',decide_eq_true_eq];omega
 rw [E9] at n1
 omega
def IM (h:Heap) (vs:List Value) (cs:List (Int×Int)):Prop:=vs.length=cs.length/\∀(j:Nat) (v:Value),vs[j]? =some v->∃a o n t u,v= .ref a/\h.get? a=some o/\o.cls= .type "tuple" /\o.data= .seq #[.int (cs.getD j (0,0)).1 t,.int (cs.getD j (0,0)).2 u] n
section
variable {prog : Program} {w : World} {A : Around} {E : Value -> Shared -> Prop} {s : Shared}
theorem Ma:∀ {vs:List Value}{h:Heap},(∀v∈vs,∃a o n c d t u,v=Value.ref a/\h.get? a=some o/\o.cls= .type "tuple" /\o.data= .seq #[.int c t,.int d u] n)->∃fs,KatTups h vs fs/\fs.length=vs.length/\∀f∈fs,∃c t,f=Value.int c t
 | [],_,_=>⟨[],.nil,rfl,λ_ h=>by cases h⟩
 | v::vs,h,hv=>by
  obtain⟨a,o,n,c,d,t,u,rfl,ho,hc,hd⟩:=hv v (by simp)
  obtain⟨fs,h1,h2,h3⟩:=Ma (vs:=vs) (h:=h) λv hv'=>hv v (by simp [hv'])
  exact⟨.int c t::fs,.cons ho hc hd rfl h1,by simp [h2],λf hf=>by
   rcases List.mem_cons.mp hf with e | e
   ·exact⟨c,t,e⟩
   ·exact h3 f e⟩
theorem RW {cs:List (Int×Int)} (p:IM s.heap vs cs) {i j:Nat} (hi:i<cs.length) (hj:j<cs.length) {C:Bool->Shared->Prop} (h:C (Bn (cs.getD i (0,0)) (cs.getD j (0,0))) s):kas_ask prog w A (tuples' true) vs i j C s:=by
 unfold kas_ask
 have li:i<vs.length:=by rw [p.1];exact hi
 have lj:j<vs.length:=by rw [p.1];exact hj
 obtain⟨a,o,n,t,u,e,ho,hc,hd⟩:=p.2 i vs[i] (List.getElem?_eq_getElem li)
 obtain⟨a',o',n',t',u',e',ho',hc',hd'⟩:=p.2 j vs[j] (List.getElem?_eq_getElem lj)
 rw [show vs.getD i Value.none= .ref a from by rw [List.getD_eq_getElem?_getD,List.getElem?_eq_getElem li,<-e];rfl,show vs.getD j Value.none= .ref a' from by rw [List.getD_eq_getElem?_getD,List.getElem?_eq_getElem lj,<-e'];rfl]
 refine kat_lt ho hd ho' hd' ?_
 generalize cs.getD i (0,0)=c at h hd ⊢
 generalize cs.getD j (0,0)=d at h hd' ⊢
 show KatLex prog w A true _ C [(.int c.1 t,.int d.1 t'),(.int c.2 u,.int d.2 u')] 0 s
 refine kat_cons (wpAny_eqBool_int ?_)
 refine kat_go (λe1=>kat_yes (kat_cons (wpAny_eqBool_int (kat_go (λe2=>kat_yes (kat_nil ?_)) λe2=>kat_no ?_)))) λe1=>kat_no ?_
 ·have x1:c.1=d.1:=by simpa using e1
  have x2:c.2=d.2:=by simpa using e2
  have:Bn c d=false:=by unfold Bn;simp [x1,x2]
  rw [this] at h
  exact h
 ·have x1:c.1=d.1:=by simpa using e1
  show wpAny _ _ (oneLt' false (.int c.2 u) (.int d.2 u')) _ _ _
  refine kat_one _ _ ?_
  have:Bn c d=decide (c.2<d.2):=by unfold Bn;simp [x1]
  rw [this] at h
  exact wpAny_lt_int h
 ·have x1:c.1≠d.1:=by simpa using e1
  show wpAny _ _ (oneLt' true (.int c.1 t) (.int d.1 t')) _ _ _
  refine oneLt_int ?_
  have:Bn c d=decide (c.1<d.1):=by unfold Bn;simp [x1]
  rw [this] at h
  exact h
theorem RX {a:Addr}{vs:List Value}{n:Nat}{P:PySem.Fin->Shared->Prop} (ho:s.heap.get? a=some (seqObj "list" vs.toArray n)) (few:vs.length<=1)
  (h:∀g c,KpBut a s.heap g->g.get? a=some (seqObj "list" vs.toArray c)->P (.done (.ret .none)) { s with heap:=g}):wpAny (model prog w) A (Builtin.«list.sort» ⟨[.ref a],[]⟩) P E s:=by
 have big:vs.toArray.size<=sizeLine:=by rw [List.size_toArray];exact Nat.le_trans few (by decide)
 have few':vs.toArray.size<2:=by rw [List.size_toArray];omega
 have same:(arrOf (SortSt.mk' general' (vs.toArray.zip vs.toArray) #[] 7 none)).map (·.2)=vs.toArray:=by
  match vs,few with
  | [],_=>show(Array.zip #[] #[]).map _=_;simp
  | [v],_=>show(Array.zip #[v] #[v]).map _=_;simp
  | _::_::_,f=>simp at f
 obtain⟨e1,u1⟩:∃e1,(s.heap.update a (Obj.mapSeq λ_=> #[])).get? a=some (seqObj "list" #[] e1):=⟨_,get?_update_seq ho λ_=> #[]⟩
 have k1:=KpBut.upd (a:=a) (g:=s.heap) (Obj.mapSeq λ_=> #[])
 rw [list_sort_plain]
 refine wpAny_bind (listItems_at ho rfl (wpAny_bind (listUpdate_at ho rfl ?_ big (Nat.zero_le _))))
 generalize s.heap.update a (Obj.mapSeq λ_=> #[])=g1 at u1 k1
 refine wpAny_bind (seqEpoch_at (s:= { s with heap:=g1}) u1 rfl (wpAny_bind (wpAny_newTuple (wpAny_bind (wpAny_newList (wpAny_holding ?_) (Nat.zero_le _))) big)))
 have u3:((g1.push (seqObj "tuple" vs.toArray 0)).push (seqObj "list" #[] 0)).get? a=some (seqObj "list" #[] e1):=Heap.get?_push_of_some _ (Heap.get?_push_of_some _ u1)
 have k3:KpBut a s.heap ((g1.push (seqObj "tuple" vs.toArray 0)).push (seqObj "list" #[] 0)):=k1.trans ((KpBut.new _).trans (KpBut.new _))
 show wpAny (model prog w) A _ P E { s with heap:=(g1.push (seqObj "tuple" vs.toArray 0)).push (seqObj "list" #[] 0)}
 generalize(g1.push (seqObj "tuple" vs.toArray 0)).push (seqObj "list" #[] 0)=g3 at u3 k3
 simp only [if_pos few',StateT.run_pure]
 refine wpAny_bind (wpAny_pure (wpAny_bind (wpAny_pure (wpAny_bind (seqEpoch_at (s:= { s with heap:=g3}) u3 rfl ?_)))))
 dsimp only
 rw [same]
 refine wpAny_bind (listUpdate_at (s:= { s with heap:=g3}) u3 rfl ?_ (Nat.zero_le _) (Nat.le_succ_of_le big))
 rw [bne_self_eq_false]
 exact wpAny_pure (h _ _ (k3.trans (KpBut.upd _)) (get?_update_seq u3 λ_=>vs.toArray))
theorem RY {l:Addr}{Q:Value->Shared->Prop} (hl:s.heap.IsList l vs.toArray) (few:vs.length<=1)
  (h:∀D g c,s.heap.objs.size<=D->(∀b o,s.heap.get? b=some o->g.get? b=some o)->g.get? D=some (seqObj "list" vs.toArray c)->Q (.ref D) { s with heap:=g}):wpAny (model prog w) A (call (.builtin "sorted") [.ref l]) Q E s:=by
 have big:vs.length<=sizeLine:=Nat.le_trans few (by decide)
 have kS:∀b o,s.heap.get? b=some o->((s.heap.push (seqObj "list" #[] 0)).update s.heap.objs.size (Obj.mapSeq (· ++vs.toArray))).get? b=some o:=λb o e=>KpBut.upd _ b o (Nat.ne_of_lt (Heap.lt_size e)) (Heap.get?_push_of_some _ e)
 have zS:((s.heap.push (seqObj "list" #[] 0)).update s.heap.objs.size (Obj.mapSeq (· ++vs.toArray))).objs.size=s.heap.objs.size+1:=by simp [Heap.size_update,size_push']
 refine Calls.call_function_entry kind_sorted plain_sorted entry_sorted (args_sorted1 _) (wpAny_bind (m:=checkCount "sorted" 1 1 _) (wpAny_pure (wpAny_bind (collect_list hl ?_ big))))
 generalize(s.heap.push (seqObj "list" #[] 0)).update s.heap.objs.size (Obj.mapSeq (· ++vs.toArray))=gS at kS zS
 refine wpAny_bind (wpAny_newList ?_ big)
 have oD:(gS.push (seqObj "list" vs.toArray 0)).get? gS.objs.size=some (seqObj "list" vs.toArray 0):=Heap.get?_push_size _ rfl
 exact wpAny_bind (wpAny_holding (wpAny_call_entry slot_list_sort ⟨_,oD,rfl⟩ entry_list_sort (RX (s:= { s with heap:=gS.push (seqObj "list" vs.toArray 0)}) oD few λg c kp gD=>⟨_,rfl,wpAny_pure ⟨_,rfl,h gS.objs.size g c (by rw [zS];exact Nat.le_succ _) (λb o e=>kp b o (Nat.ne_of_lt (by rw [zS];exact Nat.lt_succ_of_lt (Heap.lt_size e))) (Heap.get?_push_of_some _ (kS b o e))) gD⟩⟩) (args_list_sort _)))
def IN (g:Heap) (L:Addr):List (Addr×Obj):=(List.range g.objs.size).filterMap λb=>if b=L then none else(g.get? b).map λo=>(b,o)
theorem allBut_mem {g:Heap}{q:Addr×Obj}:q∈IN g L↔q.1≠L/\g.get? q.1=some q.2:=by
 unfold IN
 rw [List.mem_filterMap]
 constructor
 ·rintro⟨b,_,e⟩
  by_cases z:b=L
  ·rw [if_pos z] at e;cases e
  ·rw [if_neg z] at e
   cases y:g.get? b with
   | none=>rw [y] at e;cases e
   | some o=>rw [y] at e;cases e;exact⟨z,y⟩
 ·rintro⟨n,e⟩
  exact⟨q.1,List.mem_range.mpr (Heap.lt_size e),by rw [if_neg n,e];rfl⟩
end
theorem Ac.laidF {pins:List (Addr×Obj)}{σ:St}{s:Shared}{g:Heap}{D:Addr}{o:HO}{m:Str->Option Value} (I:Ac X pins σ H s) (kp:∀b u,b≠X.env.locals->s.heap.get? b=some u->g.get? b=some u) (n0:s.heap.Ns X.env.locals m) (n1:g.Ns X.env.locals m)
  (off:s.heap.get? D=none) (new:ObjOk X.prog X.w (upd H D o) g D o):Ac X pins σ (upd H D o) { s with heap:=g}:=by
 have hD:H D=none:=by
  cases e:H D with
  | none=>rfl
  | some u=>obtain⟨ob,z⟩:=(I.hok D u e).there;rw [off] at z;cases z
 have ne:∀b u,s.heap.get? b=some u->b≠D:=λb u e z=>by rw [z,off] at e;cases e
 have nt:∀b u,H b=some u->b≠D:=λb u e z=>by rw [z,hD] at e;cases e
 have nl:∀b u,H b=some u->b≠X.env.locals:=λb u e z=>by rw [z,I.free] at e;cases e
 refine I.step (g':=s.gens) (t':=s.toks) (d':=s.drawn) (ch:=[]) (λ_ z=>nomatch z) (λb u n _ _ e _=>kp b u n e) (λb u n _ _ e _=>⟨u.slots,kp b u n e⟩) (λb u _ e n=>by rw [Ap (ne b u e)];exact n) (λb u _ e=>?_)
  (λb xs e=>by rw [Ap (nt b _ e)];exact e) (λb u v e=>by rw [Ap (nt b _ e)];exact e) (λb ps e=>⟨#[],by rw [Ap (nt b _ e),e];simp⟩) (λm' z=>?_) (λb u e=>?_) I.bare
 ·by_cases z:b=X.env.locals
  ·obtain⟨o',_,_,q,_⟩:=n1
   exact⟨o',by rw [z];exact q⟩
  ·exact⟨u,kp b u z e⟩
 ·have em:m'=m:=by
   obtain⟨o1,es1,ep1,q1,d1,_,f1⟩:=z
   obtain⟨o2,es2,ep2,q2,d2,_,f2⟩:=n0
   rw [q1] at q2;cases q2
   rw [d1] at d2;cases d2
   funext x
   rw [<-f1,<-f2]
  rw [em];exact n1
 ·by_cases z:b=D
  ·subst z
   rw [Ai] at e
   cases e
   exact new
  ·rw [Ap z] at e
   refine(I.hok b u e).stay (λc v hc q=>kp c v ?_ q) (λc q=>by rw [Ap (nt c _ q)];exact q) λc xs q=>by rw [Ap (nt c _ q)];exact q
   rcases hc with y | y
   ·rw [y];exact nl b u e
   ·exact nl c _ y
def PrT (H:Hp) (Ts:List Addr) (cs:List (Int×Int)):Prop:=Ts.length=cs.length/\∀(j:Nat) (T:Addr) (c:Int×Int),Ts[j]? =some T->cs[j]? =some c->H T=some (.tup [.int c.1,.int c.2])
theorem Mb:∀ {Ts:List Addr}{us:List Value},Au (Ts.map V.ref) us->us=Ts.map Value.ref
 | [],_,.nil=>rfl
 | T::Ts,_,.cons h r=>by
  have:=Mb r
  cases h
  rw [this];rfl
theorem RZ:Be X (.builtin "sorted") (λxs H Q=>∃(p:Addr) (Ts:List Addr) (cs:List (Int×Int)),xs=[.ref p]/\H p=some (.lst (Ts.map V.ref))/\Ts.length<=4/\PrT H Ts cs/\∀(l:Addr) (Ts':List Addr) (cs':List (Int×Int)),H l=none->PrT H Ts' cs'->cs'.Perm cs->cs'.Pairwise (λc d=>c.1<=d.1)->Q (.ref l) (upd H l (.lst (Ts'.map V.ref)))):=by
 intro pins s σ H xs us Q I r h
 obtain⟨p,Ts,cs,rfl,hp,hn,pr,q⟩:=h
 obtain⟨u,rfl,ru⟩:=r.one
 cases ru
 obtain⟨its,rv,pl,hz⟩:=I.list (An.of hp)
 have hl:=rv.length
 rw [List.length_map] at hl
 have ei:its=Ts.map Value.ref:=Mb rv
 have pv:IM s.heap its cs:=⟨by rw [<-hl,pr.1],λj v hv=>by
  rw [ei,List.getElem?_map] at hv
  cases hT:Ts[j]? with
  | none=>rw [hT] at hv;cases hv
  | some T=>
   rw [hT] at hv
   cases hv
   have lj:j<cs.length:=by rw [<-pr.1];exact(List.getElem?_eq_some_iff.mp hT).1
   have hH:=pr.2 j T cs[j] hT (List.getElem?_eq_getElem lj)
   rw [show cs.getD j (0,0)=cs[j] from by rw [List.getD_eq_getElem?_getD,List.getElem?_eq_getElem lj];rfl]
   obtain⟨us,r',t',z'⟩:=I.tuple (Ae.of hH)
   obtain⟨u1,u2,rfl,r1,r2⟩:=r'.two
   obtain⟨t1,rfl⟩:=r1
   obtain⟨t2,rfl⟩:=r2
   obtain⟨o,ho,hc,n,hd⟩:=t'
   exact⟨T,o,n,t1,t2,rfl,ho,hc,hd⟩⟩
 obtain⟨m,n0,_⟩:=id I.loc
 --what is told where an order of the columns is taken
 have fin:∀(ord:List Nat) (D:Addr) (g:Heap) (c:Nat),ord.Perm (List.range cs.length)->ord.Pairwise (λx y=>(cs.getD x (0,0)).1<=(cs.getD y (0,0)).1)->s.heap.get? D=none->(∀b u,b≠X.env.locals->s.heap.get? b=some u->g.get? b=some u)->g.Ns X.env.locals m->g.get? D=some (seqObj "list" (ord.map λi=>its.getD i Value.none).toArray c)->EP X pins σ Q (.ref D) { s with heap:=g}:=by
  intro ord D g c pp pw off kp n1 gD
  have lo:ord.length=cs.length:=by simpa using pp.length_eq
  have mo:∀i∈ord,i<cs.length:=λi hi=>List.mem_range.mp (pp.mem_iff.mp hi)
  have eo:(ord.map λi=>its.getD i Value.none)=(ord.map λi=>Ts.getD i 0).map Value.ref:=by
   rw [List.map_map]
   refine List.map_congr_left λi hi=>?_
   have li:i<Ts.length:=by rw [pr.1];exact mo i hi
   rw [ei,List.getD_eq_getElem?_getD,List.getElem?_map,List.getElem?_eq_getElem li]
   show Value.ref Ts[i]=Value.ref (Ts.getD i 0)
   rw [List.getD_eq_getElem?_getD,List.getElem?_eq_getElem li];rfl
  rw [eo] at gD
  have hfr:H D=none:=by
   cases e:H D with
   | none=>rfl
   | some u=>obtain⟨ob,z⟩:=(I.hok D u e).there;rw [off] at z;cases z
  refine⟨.ref D,_,I.laidF (o:= .lst ((ord.map λi=>Ts.getD i 0).map V.ref)) kp n0 n1 off ⟨?_,_,c,IF _,?_⟩,rfl,q _ (ord.map λi=>Ts.getD i 0) (ord.map λi=>cs.getD i (0,0)) hfr ⟨by simp,λj T c hT hc=>?_⟩ ?_ ?_⟩
  ·rw [List.length_map,List.length_map,lo,<-pr.1]
   exact Nat.le_trans hn (by decide)
  ·simpa [seqObj] using gD
  ·rw [List.getElem?_map] at hT hc
   cases ho:ord[j]? with
   | none=>rw [ho] at hT;cases hT
   | some i=>
    rw [ho] at hT hc
    cases hT;cases hc
    have li:i<cs.length:=mo i (List.mem_of_getElem? ho)
    have lt:i<Ts.length:=by rw [pr.1];exact li
    refine pr.2 i _ _ ?_ ?_
    ·show Ts[i]? =some (Ts.getD i 0)
     rw [List.getD_eq_getElem?_getD,List.getElem?_eq_getElem lt];rfl
    ·show cs[i]? =some (cs.getD i (0,0))
     rw [List.getD_eq_getElem?_getD,List.getElem?_eq_getElem li];rfl
  ·have e:(List.range cs.length).map (λi=>cs.getD i (0,0))=cs:=by
    apply List.ext_getElem
    ·simp
    ·intro i h1 h2
     simp [List.getD_eq_getElem?_getD,List.getElem?_eq_getElem h2]
   have:=pp.map λi=>cs.getD i (0,0)
   rw [e] at this
   exact this
  ·rw [List.pairwise_map]
   exact pw
 by_cases h2:2<=its.length
 ·have F0:Fr {} X.env.locals s.heap m:=⟨n0,λb o e=>(by rw [Heap.get?_none_of_le (Nat.zero_le b)] at e;cases e),Nat.zero_le _⟩
  have N0:News {} X.env.locals s.heap (IN s.heap X.env.locals):=λz hz=>⟨(allBut_mem.mp hz).2,(allBut_mem.mp hz).1,Heap.get?_none_of_le (Nat.zero_le _)⟩
  have cl:2<=cs.length:=by rw [<-pv.1];exact h2
  obtain⟨ki,kpm,kpw⟩:=RV cl (by rw [<-pr.1];exact hn)
  refine kat_sorted F0 N0 pl.isList h2 (by omega) λD e1 g F1 N1 below=>?_
  have nD:D≠X.env.locals:=(N1 _ List.mem_cons_self).2.1
  have off:s.heap.get? D=none:=by
   cases e:s.heap.get? D with
   | none=>rfl
   | some ob=>exact absurd (below (D,ob) (allBut_mem.mpr ⟨nD,e⟩)) (Nat.lt_irrefl D)
  have kp1:∀b u,b≠X.env.locals->s.heap.get? b=some u->g.get? b=some u:=λb u n e=>(N1 (b,u) (List.mem_cons_of_mem _ (allBut_mem.mpr ⟨n,e⟩))).1
  have pg:IM g its cs:=⟨pv.1,λj v hv=>by
   obtain⟨a,o,n,t,u,e,ho,hc,hd⟩:=pv.2 j v hv
   refine⟨a,o,n,t,u,e,kp1 a o (λz=>?_) ho,hc,hd⟩
   obtain⟨o2,_,_,q2,d2,_⟩:=n0
   rw [<-z,ho] at q2
   cases q2
   rw [hd] at d2;cases d2⟩
  obtain⟨fs,t1,t2,t3⟩:=Ma (vs:=its) (h:=g) (λv hv=>by
   obtain⟨j,hj,e⟩:=List.mem_iff_getElem.mp hv
   obtain⟨a,o,n,t,u,e',x1,x2,x3⟩:=pg.2 j v (by rw [List.getElem?_eq_getElem hj,e])
   exact⟨a,o,n,_,_,t,u,e',x1,x2,x3⟩)
  refine kat_kind (s:= { s with heap:=g}) (T:= .type "int") t1 (by omega) (λf hf=>by
   obtain⟨c,t,e⟩:=t3 f hf
   rw [e]
   exact Looks.of_pure rfl) rfl ?_
  show KasT.kasWp _ _ _ _
  rw [pv.1]
  refine L0 (n:=cs.length) (lt:=λi j=>Bn (cs.getD i (0,0)) (cs.getD j (0,0))) (λi j C hi hj hC=>RW pg hi hj hC) ki ?_
  refine KasFin.intro (s:= { s with heap:=g}) F1 N1 (.head λz hz=>Nat.ne_of_lt (below z hz)) λg2 c F2 N2=>?_
  exact fin _ D g2 c kpm kpw off (λb u n e=>(N2 (b,u) (List.mem_cons_of_mem _ (allBut_mem.mpr ⟨n,e⟩))).1) F2.ns (N2 _ List.mem_cons_self).1
 ·refine RY pl.isList (by omega) λD g c hD kp gD=>?_
  refine fin (List.range cs.length) D g c (List.Perm.refl _) ?_ (Heap.get?_none_of_le hD) (λb u _ e=>kp b u e) ?_ ?_
  ·have:cs.length<=1:=by rw [<-pv.1];omega
   refine(List.pairwise_lt_range).imp_of_mem λ{x y} hx hy lt=>?_
   have:=List.mem_range.mp hy
   omega
  ·obtain⟨o,es,ep,e,r'⟩:=n0
   exact⟨o,es,ep,kp _ _ e,r'⟩
  ·rw [gD]
   have e:((List.range cs.length).map λi=>its.getD i Value.none)=its:=by
    rw [<-pv.1]
    apply List.ext_getElem
    ·simp
    ·intro i a b
     simp [List.getD_eq_getElem?_getD,List.getElem?_eq_getElem b]
   rw [e]
theorem PrT.sm {H':Hp}{cs:List (Int×Int)} (p:PrT H Ts cs) (s:Ab H H'):PrT H' Ts cs:=⟨p.1,λj T c a b=>s _ _ (p.2 j T c a b)⟩
theorem PrT.own {cs:List (Int×Int)}{ys:List V}{o:HO} (p:PrT H Ts cs) (h:H L=some (.lst ys)):PrT (upd H L o) Ts cs:=⟨p.1,λj T c a b=>by
 have k:=p.2 j T c a b
 rw [Ap (λz=>by rw [z,h] at k;cases k)];exact k⟩
end L2
end
section
namespace MF
open PySem PySem.Spec PyProof.Rows L2
def top (i : Nat) : Stmt := PySem.Challenge.pw_mainfires_k52_a_unit_more_to_have.main.body.getD i (.Pass ⟨0, 0, 0, 0⟩)
abbrev s_is_whole:Stmt:=top 8
abbrev s_is_whole_from:Stmt:=top 9
abbrev s_is_tuple_of:Stmt:=top 10
abbrev s_replaced:Stmt:=top 11
abbrev s_is_plant:Stmt:=top 20
abbrev s_are_boilers:Stmt:=top 21
abbrev s_is_make_and_coal:Stmt:=top 22
abbrev s_are_engines:Stmt:=top 23
abbrev s_is_engine:Stmt:=top 24
abbrev s_is_main:Stmt:=top 25
abbrev s_need_plant:Stmt:=top 26
abbrev s_is_story:Stmt:=top 27
abbrev s_is_fault:Stmt:=top 28
abbrev s_need_story:Stmt:=top 29
abbrev s_caps_of:Stmt:=top 30
abbrev s_caps_in:Stmt:=top 31
abbrev s_words_for:Stmt:=top 32
abbrev s_cap_under:Stmt:=top 33
abbrev s_draws_of:Stmt:=top 34
abbrev s_drawn_by:Stmt:=top 35
abbrev s_need_hour:Stmt:=top 36
abbrev s_need_boiler:Stmt:=top 37
abbrev s_terms_of:Stmt:=top 38
abbrev s_is_too_much:Stmt:=top 40
abbrev s_least_stretch:Stmt:=top 41
abbrev s_floor_at:Stmt:=top 43
abbrev s_highest_floor:Stmt:=top 44
abbrev s_tails_from:Stmt:=top 45
abbrev s_coal_under:Stmt:=top 46
abbrev s_coal_or_refuse:Stmt:=top 48
abbrev s_added:Stmt:=top 49
abbrev s_wider:Stmt:=top 50
abbrev s_lower:Stmt:=top 51
abbrev s_fuller:Stmt:=top 52
abbrev s_better:Stmt:=top 53
abbrev s__law_cell:Stmt:=top 55
abbrev s__law_pen:Stmt:=top 56
abbrev s__law_draw:Stmt:=top 57
abbrev s__law_plant:Stmt:=top 58
abbrev s__law_story:Stmt:=top 59
abbrev s__law_caps:Stmt:=top 60
abbrev s__law_draws:Stmt:=top 61
abbrev s__law_mains:Stmt:=top 62
abbrev s__law_keeps:Stmt:=top 63
abbrev s__law_costs:Stmt:=top 64
abbrev s__law_least:Stmt:=top 65
abbrev s__law_coals:Stmt:=top 66
abbrev s__law_coal:Stmt:=top 67
abbrev s__law_pair:Stmt:=top 68
abbrev s__law_mains_due:Stmt:=top 69
abbrev s__law_better:Stmt:=top 70
abbrev s_law:Stmt:=top 71
structure Tx (mg:Str->Option Value):Prop where
 b_all:mg "all"=none
 b_bool:mg "bool"=none
 b_divmod:mg "divmod"=none
 b_enumerate:mg "enumerate"=none
 b_int:mg "int"=none
 b_isinstance:mg "isinstance"=none
 b_len:mg "len"=none
 b_list:mg "list"=none
 b_max:mg "max"=none
 b_min:mg "min"=none
 b_range:mg "range"=none
 b_repr:mg "repr"=none
 b_reversed:mg "reversed"=none
 b_sorted:mg "sorted"=none
 b_sum:mg "sum"=none
 b_tuple:mg "tuple"=none
 b_zip:mg "zip"=none
 g_MOST_BOILERS:∃t,mg "MOST_BOILERS"=some (.int 4 t)
 g_MOST_ENGINES:∃t,mg "MOST_ENGINES"=some (.int 4 t)
 g_MOST_FAULTS:∃t,mg "MOST_FAULTS"=some (.int 4 t)
 g_MOST_HOURS:∃t,mg "MOST_HOURS"=some (.int 8 t)
 g_MOST_UNITS:∃t,mg "MOST_UNITS"=some (.int 9 t)
 g_MOST_EXTRA:∃t,mg "MOST_EXTRA"=some (.int 20 t)
 g_MOST_IN_MAIN:∃t,mg "MOST_IN_MAIN"=some (.int 40 t)
def R0:PyData->Bool | .int _=>true | _=>false
def BR (d:PyData) (lo hi:Int):Bool:=match d with | .int i=>decide (lo<=i) && decide (i<=hi) | _=>false
def A6 (d:PyData) (lo hi:Int):Bool:=match d with | .tuple ds=>decide (lo<=(ds.length:Int)) && decide ((ds.length:Int)<=hi) | _=>false
def Gm:Sp:=λvs H Q _=>match vs with | [v]=>∃p d,Aa p H d v/\∀b,b=R0 d->Q (.bl b) H | _=>False
def IO:Sp:=λvs H Q _=>match vs with | [v,.int lo,.int hi]=>∃p d,Aa p H d v/\∀b,b=BR d lo hi->Q (.bl b) H | _=>False
def IP:Sp:=λvs H Q _=>match vs with | [v,.int lo,.int hi]=>∃p d,Aa p H d v/\∀b,b=A6 d lo hi->Q (.bl b) H | _=>False
section
variable {P : Program} {w : World} {K : PySem.W.Frag} {mg : Str -> Option Value} {base : Heap}
theorem R1:Ay ["thing"] ["thing"] (Aw s_is_whole):=AB
theorem R3 (F:Df K mg "is_whole" s_is_whole ["thing"]) (T:Tx mg)  :Fn P w K mg base 1 "is_whole" ["thing"] Gm:=by
 refine F.fn R1 (λvs H Q E h=>?_) (λf cdv A outer s H vs Q E hr h=>?_)
 ·unfold Gm at h;split at h;rfl;exact h.elim
 refine⟨_,(Ao (Ax (Bs (AI HY rfl T.b_isinstance boot_isinstance (Aq (cx 0 (by rfl)) (Ho (v:= .ty "int") rfl T.b_int L2.boot_int rfl (by decide) (by decide)) (by rfl)) (by decide) (by decide) (by rfl) (by rfl)) (Cp (OL (AI HY rfl T.b_isinstance boot_isinstance (Aq (cx 0 (by rfl)) (Ho (v:= .ty "bool") rfl T.b_bool L2.boot_bool rfl (by decide) (by decide)) (by rfl)) (by decide) (by decide) (by rfl) (by rfl))))))),?_⟩
 unfold Gm at h
 split at h
 ·rename_i v
  obtain⟨p,d,r,q⟩:=h
  refine⟨_,r.ty,.inl rfl,⟨λc=>⟨_,r.ty,.inr (.inl rfl),?_⟩,λc=>?_⟩⟩
  ·exact q _ (by cases d<;>first | rfl | cases c)
  ·exact q _ (by cases d<;>first | rfl | cases c)
 ·exact h.elim
theorem R4:Ay ["thing","least","most"] ["thing","least","most"] (Aw s_is_whole_from):=AB
abbrev DE (P:Program) (w:World) (K:PySem.W.Frag) (mg:Str->Option Value) (base:Heap):Prop:=Fn P w K mg base 2 "is_whole_from" ["thing","least","most"] IO
theorem R5 (F:Df K mg "is_whole_from" s_is_whole_from ["thing","least","most"]) (T:Tx mg) (D_is_whole:Fn P w K mg base 1 "is_whole" ["thing"] Gm):DE P w K mg base:=by
 refine F.fn R4 (λvs H Q E h=>?_) (λf cdv A outer s H vs Q E hr h=>?_)
 ·unfold IO at h;split at h;rfl;exact h.elim
 refine⟨_,(Ao (Ax (Bs (Aj D_is_whole (hr.mono (by decide)) rfl (Al (cx 0 (by rfl)) (by rfl)) (by decide) (by rfl) (by rfl)) (Cp (Kb Dq Dq (cx 1 (by rfl)) (cx 0 (by rfl)) (cx 2 (by rfl)) (by with_unfolding_all rfl)))))),?_⟩
 unfold IO at h
 split at h
 ·rename_i v lo hi
  obtain⟨p,d,r,q⟩:=h
  refine⟨p,d,r,λb hb=>⟨λc=>?_,λc=>?_⟩⟩
  ·subst c
   cases d<;>first | cases hb | skip
   rename_i i
   unfold Aa at r
   subst r
   refine⟨λc=>?_,λc=>?_⟩
   ·exact q _ (by unfold BR;dsimp only;rw [c];rfl)
   ·exact q _ (by unfold BR;dsimp only;rw [c];rfl)
  ·subst c
   exact q _ (by cases d<;>first | rfl | cases hb)
 ·exact h.elim
theorem R6:Ay ["thing","fewest","most"] ["thing","fewest","most"] (Aw s_is_tuple_of):=AB
abbrev Dh (P:Program) (w:World) (K:PySem.W.Frag) (mg:Str->Option Value) (base:Heap):Prop:=Fn P w K mg base 1 "is_tuple_of" ["thing","fewest","most"] IP
theorem R7 (F:Df K mg "is_tuple_of" s_is_tuple_of ["thing","fewest","most"]) (T:Tx mg)  :Dh P w K mg base:=by
 refine F.fn R6 (λvs H Q E h=>?_) (λf cdv A outer s H vs Q E hr h=>?_)
 ·unfold IP at h;split at h;rfl;exact h.elim
 refine⟨_,(Ao (Ax (Bs (AI HY rfl T.b_isinstance boot_isinstance (Aq (cx 0 (by rfl)) (Ho (v:= .ty "tuple") rfl T.b_tuple Ce rfl (by decide) (by decide)) (by rfl)) (by decide) (by decide) (by rfl) (by rfl)) (Cp (Kb Dq Dq (cx 1 (by rfl)) (AI (BG K (by rfl)) rfl T.b_len PySem.boot_len (Al (cx 0 (by rfl)) (by rfl)) (by decide) (by decide) (by rfl) (by rfl)) (cx 2 (by rfl)) (by with_unfolding_all rfl)))))),?_⟩
 unfold IP at h
 split at h
 ·rename_i v lo hi
  obtain⟨p,d,r,q⟩:=h
  refine⟨_,r.ty,.inr (.inr (.inl rfl)),⟨λc=>?_,λc=>?_⟩⟩
  ·cases d<;>first | cases c | skip
   rename_i ds
   unfold Aa at r
   obtain⟨a,xs,rfl,ha,rs⟩:=r
   refine⟨a,xs,rfl,.inr (Ae.of ha),?_⟩
   rw [<-rs.len]
   refine⟨λc=>?_,λc=>?_⟩
   ·exact q _ (by unfold A6;dsimp only;rw [c];rfl)
   ·exact q _ (by unfold A6;dsimp only;rw [c];rfl)
  ·exact q _ (by cases d<;>first | rfl | cases c)
 ·exact h.elim
end
end MF
end
section
namespace MF
open PySem PySem.Spec PyProof.Rows L2
variable {p : Addr} {H : Hp} {a : PyData} {xs : List V}
theorem Mc {α β:Type}{ds:List α}{i:Nat}{d:α} (f:α->β) (h:ds[i]? =some d):(ds.take (i+1)).map f=(ds.take i).map f++[f d]:=by
 rw [List.take_add_one,h,List.map_append];rfl
def D3 (d:PyData):Bool:=match d with | .tuple [a,b]=>BR a 1 9 && BR b 1 9 | _=>false
def DF (d:PyData):Bool:=match d with | .tuple [a,b,c]=>BR a 1 9 && BR b 0 7 && BR c 1 8 | _=>false
def D5 (d:PyData):Bool:=match d with
 | .tuple [a,b,c]=>BR b 0 40 && match b with | .int hi=>BR c 0 hi &&(match c with | .int st=>BR a 0 st | _=>false) | _=>false
 | _=>false
def Es (d:PyData):Bool:=match d with | .tuple ds=>A6 d 1 4 && ds.all D3 | _=>false
def Et (d:PyData):Bool:=match d with | .tuple ds=>A6 d 0 4 && ds.all DF | _=>false
def Eu (d:PyData):Bool:=match d with | .tuple [a,b,c]=>Es a && Et b && D5 c | _=>false
def BZ (f:PyData->Bool):Sp:=λvs H Q _=>match vs with | [v]=>∃p d,Aa p H d v/\∀b H',b=f d->Ab H H'->Q (.bl b) H' | _=>False
theorem Ew {f:PyData->Bool}{vs H Q E} (h:BZ f vs H Q E):vs.length=1:=by unfold BZ at h;split at h;rfl;exact h.elim
abbrev Gn:Sp:=BZ D3
abbrev Go:Sp:=BZ DF
abbrev Gp:Sp:=BZ D5
abbrev Gq:Sp:=BZ Es
abbrev Gs:Sp:=BZ Et
abbrev Gu:Sp:=BZ Eu
theorem R8 {vs H Q E} (h:Gn vs H Q E):vs.length=1:=Ew h
theorem R9 {vs H Q E} (h:Go vs H Q E):vs.length=1:=Ew h
theorem Sa {vs H Q E} (h:Gp vs H Q E):vs.length=1:=Ew h
theorem Sb {vs H Q E} (h:Gq vs H Q E):vs.length=1:=Ew h
theorem Sc {vs H Q E} (h:Gs vs H Q E):vs.length=1:=Ew h
theorem Sd {vs H Q E} (h:Gu vs H Q E):vs.length=1:=Ew h
theorem two {ds:List PyData} (h:A6 (.tuple ds) 2 2=true):∃a b,ds=[a,b]:=by
 unfold A6 at h;simp only [Bool.and_eq_true,decide_eq_true_eq] at h
 match ds,h with
 | [a,b],_=>exact⟨a,b,rfl⟩
 | [],h=>simp at h
 | [_],h=>simp at h
 | _::_::_::_,h=>simp at h;omega
theorem three {ds:List PyData} (h:A6 (.tuple ds) 3 3=true):∃a b c,ds=[a,b,c]:=by
 unfold A6 at h;simp only [Bool.and_eq_true,decide_eq_true_eq] at h
 match ds,h with
 | [a,b,c],_=>exact⟨a,b,c,rfl⟩
 | [],h=>simp at h
 | [_],h=>simp at h
 | [_,_],h=>simp at h
 | _::_::_::_::_,h=>simp at h;omega
theorem Ex {d:PyData}{lo hi:Int} (h:A6 d lo hi=true):∃ds,d= .tuple ds:=by
 cases d<;>first | exact⟨_,rfl⟩ | cases h
theorem Aa.shape {ds:List PyData}{v:V} (r:Aa p H (.tuple ds) v):∃a xs,v= .ref a/\H a=some (.tup xs)/\Ad p H ds xs:=by unfold Aa at r;exact r
theorem Ad.two {b:PyData} (r:Ad p H [a,b] xs):∃x y,xs=[x,y]/\Aa p H a x/\Aa p H b y:=by
 unfold Ad at r;obtain⟨x,s,rfl,hx,r⟩:=r;unfold Ad at r;obtain⟨y,s,rfl,hy,r⟩:=r;unfold Ad at r;subst r;exact⟨x,y,rfl,hx,hy⟩
theorem Ad.three {b c:PyData} (r:Ad p H [a,b,c] xs):∃x y z,xs=[x,y,z]/\Aa p H a x/\Aa p H b y/\Aa p H c z:=by
 unfold Ad at r;obtain⟨x,s,rfl,hx,r⟩:=r;obtain⟨y,z,rfl,hy,hz⟩:=Ad.two r;exact⟨x,y,z,rfl,hx,hy,hz⟩
section
variable {P : Program} {w : World} {K : PySem.W.Frag} {mg : Str -> Option Value} {base : Heap}
theorem sc_is_make_and_coal:Ay ["thing","make","coal"] ["thing"] (Aw s_is_make_and_coal):=AB
theorem Se (F:Df K mg "is_make_and_coal" s_is_make_and_coal ["thing"]) (T:Tx mg) (D_is_tuple_of:Dh P w K mg base) (D_is_whole_from:DE P w K mg base):Fn P w K mg base 3 "is_make_and_coal" ["thing"] Gn:=by
 obtain⟨t_MOST_UNITS,g_MOST_UNITS⟩:=T.g_MOST_UNITS
 refine F.fn sc_is_make_and_coal (λvs H Q E h=>?_) (λf cdv A outer s H vs Q E hr h=>?_)
 ·exact R8 h
 refine⟨_,(Ak (A5 (CF (Cc (Aj D_is_tuple_of (hr.mono (by decide)) rfl (AG (cx 0 (by rfl)) Af Af (by rfl)) (by decide) (by rfl) (by rfl)) (by intro _;rfl))) (Ao (Ax CV)) A7) (Ak (A1 (cx 0 (by rfl)) (AC K (n:=2) (Ah (Ag 1 sc_is_make_and_coal.nd (by rfl)) (Ah (Ag 2 sc_is_make_and_coal.nd (by rfl)) AA (by rfl)) (by rfl)) (by rfl) (by rfl) (by rfl) (by rfl)) (by rfl) (by rfl) (by rfl)) (Ao (Ax (Bs (Aj D_is_whole_from (hr.mono (by decide)) rfl (AG (cx 1 (by rfl)) Af (Co (v:= .int 9) rfl g_MOST_UNITS ⟨t_MOST_UNITS,rfl⟩ (by decide)) (by rfl)) (by decide) (by rfl) (by rfl)) (Cp (Aj D_is_whole_from (hr.mono (by decide)) rfl (AG (cx 2 (by rfl)) Af (Co (v:= .int 9) rfl g_MOST_UNITS ⟨t_MOST_UNITS,rfl⟩ (by decide)) (by rfl)) (by decide) (by rfl) (by rfl)))))))),?_⟩
 unfold Gn BZ at h
 split at h
 ·rename_i v
  obtain⟨p,d,r,q⟩:=h
  refine⟨p,d,r,λb hb=>⟨λc=>?_,λc=>?_⟩⟩
  ·refine q false H ?_ (Ab.refl _)
   have e:A6 d 2 2=false:=by rw [<-hb];simpa using c
   cases d<;>first | rfl | skip
   rename_i ds
   match ds,e with
   | [a,b],e=>cases e
   | [],_=>rfl
   | [_],_=>rfl
   | _::_::_::_,_=>rfl
  ·have e:A6 d 2 2=true:=by rw [<-hb];simpa using c
   obtain⟨ds,rfl⟩:=Ex e
   obtain⟨a,b,rfl⟩:=two e
   obtain⟨l,xs,rfl,hl,rs⟩:=Aa.shape r
   obtain⟨x,y,rfl,rx,ry⟩:=Ad.two rs
   refine⟨l,[x,y],rfl,Ae.of hl,rfl,x,[y],rfl,y,[],rfl,rfl,p,a,rx,λb1 e1=>⟨λc=>⟨p,b,ry,λb2 e2=>?_⟩,λc=>?_⟩⟩
   ·exact q _ _ (by unfold D3;dsimp only;rw [e2,<-e1,c];rfl) (Ab.refl _)
   ·exact q _ _ (by unfold D3;dsimp only;rw [<-e1,c];rfl) (Ab.refl _)
 ·exact h.elim
theorem sc_is_engine:Ay ["thing","draw","first","every"] ["thing"] (Aw s_is_engine):=AB
theorem Sf (F:Df K mg "is_engine" s_is_engine ["thing"]) (T:Tx mg) (D_is_tuple_of:Dh P w K mg base) (D_is_whole_from:DE P w K mg base):Fn P w K mg base 3 "is_engine" ["thing"] Go:=by
 obtain⟨t_MOST_HOURS,g_MOST_HOURS⟩:=T.g_MOST_HOURS
 obtain⟨t_MOST_UNITS,g_MOST_UNITS⟩:=T.g_MOST_UNITS
 refine F.fn sc_is_engine (λvs H Q E h=>?_) (λf cdv A outer s H vs Q E hr h=>?_)
 ·exact R9 h
 refine⟨_,(Ak (A5 (CF (Cc (Aj D_is_tuple_of (hr.mono (by decide)) rfl (AG (cx 0 (by rfl)) Af Af (by rfl)) (by decide) (by rfl) (by rfl)) (by intro _;rfl))) (Ao (Ax CV)) A7) (Ak (A1 (cx 0 (by rfl)) (AC K (n:=3) (Ah (Ag 1 sc_is_engine.nd (by rfl)) (Ah (Ag 2 sc_is_engine.nd (by rfl)) (Ah (Ag 3 sc_is_engine.nd (by rfl)) AA (by rfl)) (by rfl)) (by rfl)) (by rfl) (by rfl) (by rfl) (by rfl)) (by rfl) (by rfl) (by rfl)) (Ao (Ax (Bs (Aj D_is_whole_from (hr.mono (by decide)) rfl (AG (cx 1 (by rfl)) Af (Co (v:= .int 9) rfl g_MOST_UNITS ⟨t_MOST_UNITS,rfl⟩ (by decide)) (by rfl)) (by decide) (by rfl) (by rfl)) (Bs (Aj D_is_whole_from (hr.mono (by decide)) rfl (AG (cx 2 (by rfl)) Af (As Bh (Co (v:= .int 8) rfl g_MOST_HOURS ⟨t_MOST_HOURS,rfl⟩ (by decide)) Af) (by rfl)) (by decide) (by rfl) (by rfl)) (Cp (Aj D_is_whole_from (hr.mono (by decide)) rfl (AG (cx 3 (by rfl)) Af (Co (v:= .int 8) rfl g_MOST_HOURS ⟨t_MOST_HOURS,rfl⟩ (by decide)) (by rfl)) (by decide) (by rfl) (by rfl))))))))),?_⟩
 unfold Go BZ at h
 split at h
 ·rename_i v
  obtain⟨p,d,r,q⟩:=h
  refine⟨p,d,r,λb hb=>⟨λc=>?_,λc=>?_⟩⟩
  ·refine q false H ?_ (Ab.refl _)
   have e:A6 d 3 3=false:=by rw [<-hb];simpa using c
   cases d<;>first | rfl | skip
   rename_i ds
   match ds,e with
   | [a,b,c],e=>cases e
   | [],_=>rfl
   | [_],_=>rfl
   | [_,_],_=>rfl
   | _::_::_::_::_,_=>rfl
  ·have e:A6 d 3 3=true:=by rw [<-hb];simpa using c
   obtain⟨ds,rfl⟩:=Ex e
   obtain⟨a,b,c',rfl⟩:=three e
   obtain⟨l,xs,rfl,hl,rs⟩:=Aa.shape r
   obtain⟨x,y,z,rfl,rx,ry,rz⟩:=Ad.three rs
   refine⟨l,[x,y,z],rfl,Ae.of hl,rfl,x,[y,z],rfl,y,[z],rfl,z,[],rfl,rfl,p,a,rx,λb1 e1=>⟨λc=>⟨p,b,ry,λb2 e2=>⟨λc2=>⟨p,c',rz,λb3 e3=>?_⟩,λc2=>?_⟩⟩,λc=>?_⟩⟩
   ·exact q _ _ (by unfold DF;dsimp only;rw [e3,<-e1,c];rw [show BR b 0 7=true from by rw [<-c2,e2];rfl];rfl) (Ab.refl _)
   ·exact q _ _ (by unfold DF;dsimp only;rw [<-e1,c];rw [show BR b 0 7=false from by rw [<-c2,e2];rfl];rfl) (Ab.refl _)
   ·exact q _ _ (by unfold DF;dsimp only;rw [<-e1,c];rfl) (Ab.refl _)
 ·exact h.elim
theorem sc_is_main:Ay ["thing","low","high","start"] ["thing"] (Aw s_is_main):=AB
theorem Sg (F:Df K mg "is_main" s_is_main ["thing"]) (T:Tx mg) (D_is_tuple_of:Dh P w K mg base) (D_is_whole_from:DE P w K mg base):Fn P w K mg base 3 "is_main" ["thing"] Gp:=by
 obtain⟨t_MOST_IN_MAIN,g_MOST_IN_MAIN⟩:=T.g_MOST_IN_MAIN
 refine F.fn sc_is_main (λvs H Q E h=>?_) (λf cdv A outer s H vs Q E hr h=>?_)
 ·exact Sa h
 refine⟨_,(Ak (A5 (CF (Cc (Aj D_is_tuple_of (hr.mono (by decide)) rfl (AG (cx 0 (by rfl)) Af Af (by rfl)) (by decide) (by rfl) (by rfl)) (by intro _;rfl))) (Ao (Ax CV)) A7) (Ak (A1 (cx 0 (by rfl)) (AC K (n:=3) (Ah (Ag 1 sc_is_main.nd (by rfl)) (Ah (Ag 2 sc_is_main.nd (by rfl)) (Ah (Ag 3 sc_is_main.nd (by rfl)) AA (by rfl)) (by rfl)) (by rfl)) (by rfl) (by rfl) (by rfl) (by rfl)) (by rfl) (by rfl) (by rfl)) (Ao (Ax (Bs (Aj D_is_whole_from (hr.mono (by decide)) rfl (AG (cx 2 (by rfl)) Af (Co (v:= .int 40) rfl g_MOST_IN_MAIN ⟨t_MOST_IN_MAIN,rfl⟩ (by decide)) (by rfl)) (by decide) (by rfl) (by rfl)) (Bs (Aj D_is_whole_from (hr.mono (by decide)) rfl (AG (cx 3 (by rfl)) Af (cx 2 (by rfl)) (by rfl)) (by decide) (by rfl) (by rfl)) (Cp (Aj D_is_whole_from (hr.mono (by decide)) rfl (AG (cx 1 (by rfl)) Af (cx 3 (by rfl)) (by rfl)) (by decide) (by rfl) (by rfl))))))))),?_⟩
 unfold Gp BZ at h
 split at h
 ·rename_i v
  obtain⟨p,d,r,q⟩:=h
  refine⟨p,d,r,λb hb=>⟨λc=>?_,λc=>?_⟩⟩
  ·refine q false H ?_ (Ab.refl _)
   have e:A6 d 3 3=false:=by rw [<-hb];simpa using c
   cases d<;>first | rfl | skip
   rename_i ds
   match ds,e with
   | [a,b,c],e=>cases e
   | [],_=>rfl
   | [_],_=>rfl
   | [_,_],_=>rfl
   | _::_::_::_::_,_=>rfl
  ·have e:A6 d 3 3=true:=by rw [<-hb];simpa using c
   obtain⟨ds,rfl⟩:=Ex e
   obtain⟨a,b,c',rfl⟩:=three e
   obtain⟨l,xs,rfl,hl,rs⟩:=Aa.shape r
   obtain⟨x,y,z,rfl,rx,ry,rz⟩:=Ad.three rs
   refine⟨l,[x,y,z],rfl,Ae.of hl,rfl,x,[y,z],rfl,y,[z],rfl,z,[],rfl,rfl,p,b,ry,λb1 e1=>⟨λc1=>?_,λc1=>?_⟩⟩
   ·rw [c1] at e1
    cases b<;>first | cases e1 | skip
    rename_i hi
    unfold Aa at ry
    subst ry
    refine⟨p,c',rz,λb2 e2=>⟨λc2=>?_,λc2=>?_⟩⟩
    ·rw [c2] at e2
     cases c'<;>first | cases e2 | skip
     rename_i st
     unfold Aa at rz
     subst rz
     refine⟨p,a,rx,λb3 e3=>?_⟩
     exact q _ _ (by unfold D5;dsimp only;rw [e3];rw [<-e1,<-e2];rfl) (Ab.refl _)
    ·exact q _ _ (by unfold D5;dsimp only;rw [<-e1,<-e2,c2];rfl) (Ab.refl _)
   ·exact q _ _ (by unfold D5;dsimp only;rw [<-e1,c1];rfl) (Ab.refl _)
 ·exact h.elim
theorem Sh:Ay ["thing"] ["thing"] (Aw s_are_boilers):=AB
theorem Si (F:Df K mg "are_boilers" s_are_boilers ["thing"]) (T:Tx mg) (D_is_make_and_coal:Fn P w K mg base 3 "is_make_and_coal" ["thing"] Gn) (D_is_tuple_of:Dh P w K mg base):Fn P w K mg base 4 "are_boilers" ["thing"] Gq:=by
 obtain⟨t_MOST_BOILERS,g_MOST_BOILERS⟩:=T.g_MOST_BOILERS
 refine F.fn Sh (λvs H Q E h=>?_) (λf cdv A outer s H vs Q E hr h=>?_)
 ·exact Sb h
 refine⟨_,(Ao (Ax (Bs (Aj D_is_tuple_of (hr.mono (by decide)) rfl (AG (cx 0 (by rfl)) Af (Co (v:= .int 4) rfl g_MOST_BOILERS ⟨t_MOST_BOILERS,rfl⟩ (by decide)) (by rfl)) (by decide) (by rfl) (by rfl)) (Cp (AI (FP rfl) rfl T.b_all boot_all (Al (Bx ["part"] [none] rfl (BW K (cx 0 (by rfl)) (by rfl)) (AS.of rfl) (λ_ _ _ _=>(Ag 0 (AN (by rfl)) (by rfl))) (λ_ _ _ _=>Bq) (λ_ _ _ _=>(Aj D_is_make_and_coal (hr.mono (by decide)) rfl (Al (cx 0 (by rfl)) (by rfl)) (by decide) (by rfl) (by rfl))) (by intro _;rfl)) (by rfl)) (by decide) (by decide) (by rfl) (by rfl)))))),?_⟩
 unfold Gq BZ at h
 split at h
 ·rename_i v
  obtain⟨p,d,r,q⟩:=h
  refine⟨p,d,r,λb hb=>⟨λc=>?_,λc=>?_⟩⟩
  ·rw [c] at hb
   obtain⟨ds,rfl⟩:=Ex hb.symm
   obtain⟨l,xs,rfl,hl,rs⟩:=Aa.shape r
   have hlen:=rs.len
   have hsm:ds.length<=4:=by
    have:=hb.symm;unfold A6 at this;simp only [Bool.and_eq_true,decide_eq_true_eq] at this;omega
   refine⟨l,rfl,⟨xs,Ae.of hl⟩,B4 (xs:=xs) (λi ys H'=>Ab H H'/\ys=(ds.take i).map λd=>V.bl (D3 d)) (by omega) ⟨Ab.refl _,rfl⟩ (λi ys H' h=>by rw [h.2,List.length_map,List.length_take];omega) (λi ys H' _ h=>Ae.of (h.1 _ _ hl)) (λi x ys H' hx h=>?_) λys H' h=>?_⟩
   ·obtain⟨d,hd,rd⟩:=rs.got hx
    refine⟨trivial,λ_=>⟨p,d,Aa.ev (Ev.same h.1) d x rd,λb H2 e s2=>⟨h.1.trans s2,?_⟩⟩,λc=>by cases c⟩
    rw [h.2,e,Mc _ hd]
   ·intro m hm
    refine⟨m,ds.map D3,rfl,?_,?_⟩
    ·rw [Ai,h.2,<-hlen,List.take_length,List.map_map];rfl
    ·refine q _ _ ?_ (h.1.trans (Ab.new hm))
     unfold Es;dsimp only;rw [<-hb,List.all_map,Bool.true_and];rfl
  ·refine q _ _ ?_ (Ab.refl _)
   have e:A6 d 1 4=false:=by rw [<-hb,c]
   unfold Es
   cases d<;>first | rfl | skip
   dsimp only;rw [e];rfl
 ·exact h.elim
theorem Sj:Ay ["thing"] ["thing"] (Aw s_are_engines):=AB
theorem Sk (F:Df K mg "are_engines" s_are_engines ["thing"]) (T:Tx mg) (D_is_engine:Fn P w K mg base 3 "is_engine" ["thing"] Go) (D_is_tuple_of:Dh P w K mg base):Fn P w K mg base 4 "are_engines" ["thing"] Gs:=by
 obtain⟨t_MOST_ENGINES,g_MOST_ENGINES⟩:=T.g_MOST_ENGINES
 refine F.fn Sj (λvs H Q E h=>?_) (λf cdv A outer s H vs Q E hr h=>?_)
 ·exact Sc h
 refine⟨_,(Ao (Ax (Bs (Aj D_is_tuple_of (hr.mono (by decide)) rfl (AG (cx 0 (by rfl)) Af (Co (v:= .int 4) rfl g_MOST_ENGINES ⟨t_MOST_ENGINES,rfl⟩ (by decide)) (by rfl)) (by decide) (by rfl) (by rfl)) (Cp (AI (FP rfl) rfl T.b_all boot_all (Al (Bx ["part"] [none] rfl (BW K (cx 0 (by rfl)) (by rfl)) (AS.of rfl) (λ_ _ _ _=>(Ag 0 (AN (by rfl)) (by rfl))) (λ_ _ _ _=>Bq) (λ_ _ _ _=>(Aj D_is_engine (hr.mono (by decide)) rfl (Al (cx 0 (by rfl)) (by rfl)) (by decide) (by rfl) (by rfl))) (by intro _;rfl)) (by rfl)) (by decide) (by decide) (by rfl) (by rfl)))))),?_⟩
 unfold Gs BZ at h
 split at h
 ·rename_i v
  obtain⟨p,d,r,q⟩:=h
  refine⟨p,d,r,λb hb=>⟨λc=>?_,λc=>?_⟩⟩
  ·rw [c] at hb
   obtain⟨ds,rfl⟩:=Ex hb.symm
   obtain⟨l,xs,rfl,hl,rs⟩:=Aa.shape r
   have hlen:=rs.len
   have hsm:ds.length<=4:=by
    have:=hb.symm;unfold A6 at this;simp only [Bool.and_eq_true,decide_eq_true_eq] at this;omega
   refine⟨l,rfl,⟨xs,Ae.of hl⟩,B4 (xs:=xs) (λi ys H'=>Ab H H'/\ys=(ds.take i).map λd=>V.bl (DF d)) (by omega) ⟨Ab.refl _,rfl⟩ (λi ys H' h=>by rw [h.2,List.length_map,List.length_take];omega) (λi ys H' _ h=>Ae.of (h.1 _ _ hl)) (λi x ys H' hx h=>?_) λys H' h=>?_⟩
   ·obtain⟨d,hd,rd⟩:=rs.got hx
    refine⟨trivial,λ_=>⟨p,d,Aa.ev (Ev.same h.1) d x rd,λb H2 e s2=>⟨h.1.trans s2,?_⟩⟩,λc=>by cases c⟩
    rw [h.2,e,Mc _ hd]
   ·intro m hm
    refine⟨m,ds.map DF,rfl,?_,?_⟩
    ·rw [Ai,h.2,<-hlen,List.take_length,List.map_map];rfl
    ·refine q _ _ ?_ (h.1.trans (Ab.new hm))
     unfold Et;dsimp only;rw [<-hb,List.all_map,Bool.true_and];rfl
  ·refine q _ _ ?_ (Ab.refl _)
   have e:A6 d 0 4=false:=by rw [<-hb,c]
   unfold Et
   cases d<;>first | rfl | skip
   dsimp only;rw [e];rfl
 ·exact h.elim
theorem sc_is_plant:Ay ["thing","boilers","engines","main"] ["thing"] (Aw s_is_plant):=AB
theorem Sl (F:Df K mg "is_plant" s_is_plant ["thing"]) (T:Tx mg) (D_are_boilers:Fn P w K mg base 4 "are_boilers" ["thing"] Gq) (D_are_engines:Fn P w K mg base 4 "are_engines" ["thing"] Gs) (D_is_main:Fn P w K mg base 3 "is_main" ["thing"] Gp) (D_is_tuple_of:Dh P w K mg base):Fn P w K mg base 5 "is_plant" ["thing"] Gu:=by
 refine F.fn sc_is_plant (λvs H Q E h=>?_) (λf cdv A outer s H vs Q E hr h=>?_)
 ·exact Sd h
 refine⟨_,(Ak (A5 (CF (Cc (Aj D_is_tuple_of (hr.mono (by decide)) rfl (AG (cx 0 (by rfl)) Af Af (by rfl)) (by decide) (by rfl) (by rfl)) (by intro _;rfl))) (Ao (Ax CV)) A7) (Ak (A1 (cx 0 (by rfl)) (AC K (n:=3) (Ah (Ag 1 sc_is_plant.nd (by rfl)) (Ah (Ag 2 sc_is_plant.nd (by rfl)) (Ah (Ag 3 sc_is_plant.nd (by rfl)) AA (by rfl)) (by rfl)) (by rfl)) (by rfl) (by rfl) (by rfl) (by rfl)) (by rfl) (by rfl) (by rfl)) (Ao (Ax (Bs (Aj D_are_boilers (hr.mono (by decide)) rfl (Al (cx 1 (by rfl)) (by rfl)) (by decide) (by rfl) (by rfl)) (Bs (Aj D_are_engines (hr.mono (by decide)) rfl (Al (cx 2 (by rfl)) (by rfl)) (by decide) (by rfl) (by rfl)) (Cp (Aj D_is_main (hr.mono (by decide)) rfl (Al (cx 3 (by rfl)) (by rfl)) (by decide) (by rfl) (by rfl))))))))),?_⟩
 unfold Gu BZ at h
 split at h
 ·rename_i v
  obtain⟨p,d,r,q⟩:=h
  refine⟨p,d,r,λb hb=>⟨λc=>?_,λc=>?_⟩⟩
  ·refine q false H ?_ (Ab.refl _)
   have e:A6 d 3 3=false:=by rw [<-hb];simpa using c
   cases d<;>first | rfl | skip
   rename_i ds
   match ds,e with
   | [a,b,c],e=>cases e
   | [],_=>rfl
   | [_],_=>rfl
   | [_,_],_=>rfl
   | _::_::_::_::_,_=>rfl
  ·have e:A6 d 3 3=true:=by rw [<-hb];simpa using c
   obtain⟨ds,rfl⟩:=Ex e
   obtain⟨a,b,c',rfl⟩:=three e
   obtain⟨l,xs,rfl,hl,rs⟩:=Aa.shape r
   obtain⟨x,y,z,rfl,rx,ry,rz⟩:=Ad.three rs
   refine⟨l,[x,y,z],rfl,Ae.of hl,rfl,x,[y,z],rfl,y,[z],rfl,z,[],rfl,rfl,p,a,rx,λb1 H1 e1 s1=>⟨λc=>⟨p,b,Aa.ev (Ev.same s1) _ _ ry,λb2 H2 e2 s2=>⟨λc2=>⟨p,c',Aa.ev (Ev.same (s1.trans s2)) _ _ rz,λb3 H3 e3 s3=>?_⟩,λc2=>?_⟩⟩,λc=>?_⟩⟩
   ·exact q _ _ (by unfold Eu;dsimp only;rw [e3,<-e1,<-e2,c,c2];rfl) (s1.trans (s2.trans s3))
   ·exact q _ _ (by unfold Eu;dsimp only;rw [<-e1,<-e2,c,c2];rfl) (s1.trans s2)
   ·exact q _ _ (by unfold Eu;dsimp only;rw [<-e1,c];rfl) s1
 ·exact h.elim
end
end MF
end
section
namespace MF
open PySem PySem.Spec PyProof.Rows L2
variable {p a : Addr} {H : Hp}
def A9 (p:Addr) (H:Hp):Prop:=∃l f:Int,H p=some (.lst [.int l,.int f])
theorem A9.new {o:HO} (h:A9 p H) (n:H a=none):A9 p (upd H a o):=by
 obtain⟨l,f,e⟩:=h;exact⟨l,f,by rw [Ap (A2 e n)];exact e⟩
theorem A9.ne (h:A9 p H) (n:H a=none):a≠p:=by obtain⟨l,f,e⟩:=h;exact Ne.symm (A2 e n)
theorem A9.same {H':Hp} (h:A9 p H) (s:Ab H H'):A9 p H':=by obtain⟨l,f,e⟩:=h;exact⟨l,f,s _ _ e⟩
def Gv (K:PySem.W.Frag):Sp:=λvs H Q _=>match vs with | [.ref a,.int k]=>∃ns:List Int,An K H a (ns.map V.int)/\0<=k/\∀i,Q (.int i) H | _=>False
def Gw:Sp:=λvs H Q _=>match vs with | [.int c]=>∀p l f,H p=none->Q (.ref p) (upd H p (.lst [.int l,.int f])) | _=>False
def Fa:Sp:=λvs H Q _=>match vs with | [.ref p,.int m]=>A9 p H/\0<m/\m<1000/\∀g H',0<=g->g<m->Ev p H H'->A9 p H'->Q (.int g) H' | _=>False
theorem DG {ns:List Int}{g:Int} (h0:0<=g) (h1:g<ns.length):∃v∈ns,BT (ns.map V.int) g=some (.int v):=by
 have hk:g.toNat<ns.length:=by omega
 have e:g=((g.toNat:Nat):Int):=by omega
 refine⟨ns[g.toNat],List.getElem_mem hk,?_⟩
 have q:BT (ns.map V.int) ((g.toNat:Nat):Int)=some (.int ns[g.toNat]):=DO (by simp [hk])
 rw [<-e] at q
 exact q
section
variable {P : Program} {w : World} {K : PySem.W.Frag} {mg : Str -> Option Value} {base : Heap}
theorem Sm:Ay ["_law_script","_law_k"] ["_law_script","_law_k"] (Aw s__law_cell):=AB
theorem Sn (F:Df K mg "_law_cell" s__law_cell ["_law_script","_law_k"]) (T:Tx mg)  :Fn P w K mg base 1 "_law_cell" ["_law_script","_law_k"] (Gv K):=by
 refine F.fn Sm (λvs H Q E h=>?_) (λf cdv A outer s H vs Q E hr h=>?_)
 ·unfold Gv at h;split at h;rfl;exact h.elim
 refine⟨_,(Ak (A5 (A4 DU (cx 1 (by rfl)) (AI (BG K (by rfl)) rfl T.b_len PySem.boot_len (Al (cx 0 (by rfl)) (by rfl)) (by decide) (by decide) (by rfl) (by rfl)) (A3 _)) (Ao (Ax (AF (Bu K (by rfl)) (cx 0 (by rfl)) (cx 1 (by rfl)) (λ_ _=>rfl)))) A7) (Ao (Ax Af))),?_⟩
 unfold Gv at h
 split at h
 ·rename_i a k
  obtain⟨ns,hs,h0,q⟩:=h
  refine⟨a,_,rfl,.inl hs,⟨λc=>?_,λc=>q 0⟩⟩
  have c':k<(ns.length:Int):=by have:=of_decide_eq_true c;simpa using this
  obtain⟨v,_,e⟩:=DG h0 c'
  exact⟨a,_,k,.int v,rfl,rfl,hs,e,q v⟩
 ·exact h.elim
theorem sc__law_pen:Ay ["_law_cell_here","_law_more"] ["_law_cell_here"] (Aw s__law_pen):=AB
theorem So (F:Df K mg "_law_pen" s__law_pen ["_law_cell_here"]) (T:Tx mg)  :Fn P w K mg base 1 "_law_pen" ["_law_cell_here"] Gw:=by
 refine F.fn sc__law_pen (λvs H Q E h=>?_) (λf cdv A outer s H vs Q E hr h=>?_)
 ·unfold Gw at h;split at h;rfl;exact h.elim
 refine⟨_,(Ak (AH (i:=1) sc__law_pen.nd rfl (AD (by rfl)) (AI (Nw rfl) rfl T.b_max boot_max (Aq (cx 0 (by rfl)) (As Bh Af (cx 0 (by rfl))) (by rfl)) (by decide) (by decide) (by rfl) (by rfl)) (by rfl) (AE (by rfl))) (Ao (Ax (BF (Aq (cx 1 (by rfl)) (BB HA rfl T.b_int L2.boot_int (Al (D9 J9 (cx 1 (by rfl)) (As HV Af Af) (A3 _)) (by rfl)) (by decide) (by decide) (by rfl) (by rfl)) (by rfl)))))),?_⟩
 unfold Gw at h
 split at h
 ·rename_i c
  refine⟨c,0-c,rfl,?_⟩
  exact⟨⟨by decide,by decide,by decide⟩,.inr ⟨_,rfl,λp hp=>h p _ _ hp⟩⟩
 ·exact h.elim
theorem sc__law_draw:Ay ["_law_pen_here","_law_many","_law_rest","_law_drawn","_law_stir"] ["_law_pen_here","_law_many"] (Aw s__law_draw):=AB
theorem Sr (F:Df K mg "_law_draw" s__law_draw ["_law_pen_here","_law_many"]) (T:Tx mg)  :Fn P w K mg base 1 "_law_draw" ["_law_pen_here","_law_many"] Fa:=by
 refine F.fn sc__law_draw (λvs H Q E h=>?_) (λf cdv A outer s H vs Q E hr h=>?_)
 ·unfold Fa at h;split at h;rfl;exact h.elim
 refine⟨_,(Ak (A5 (A4 DM (AF (Bu K (by rfl)) (cx 0 (by rfl)) Af (λ_ _=>rfl)) Af (A3 _)) (Ak (A1 (AI Nx rfl T.b_divmod boot_divmod (Aq (AF (Bu K (by rfl)) (cx 0 (by rfl)) Af (λ_ _=>rfl)) (cx 1 (by rfl)) (by rfl)) (by decide) (by decide) (by rfl) (by rfl)) (AC K (n:=2) (Ah (Ag 2 sc__law_draw.nd (by rfl)) (Ah (Ag 3 sc__law_draw.nd (by rfl)) AA (by rfl)) (by rfl)) (by rfl) (by rfl) (by rfl) (by rfl)) (by rfl) (by rfl) (by rfl)) (Ak (A1 (cx 2 (by rfl)) (Hs (cx 0 (by rfl)) Af HD (by intro _;rfl)) (by rfl) (by rfl) (by rfl)) (Ao (Ax (cx 3 (by rfl)))))) A7) (Ak (AH (i:=4) sc__law_draw.nd rfl (AD (by rfl)) (As Ef (As Dp (As AO (As Ef (AF (Bu K (by rfl)) (cx 0 (by rfl)) Af (λ_ _=>rfl)) Af) Af) Af) Af) (by rfl) (AE (by rfl))) (Ak (AH (i:=4) sc__law_draw.nd rfl (AD (by rfl)) (As Ef (As AO (As Dp (cx 4 (by rfl)) (cx 4 (by rfl))) Af) Af) (by rfl) (AE (by rfl))) (Ak (A1 (As Ef (As AO (As Dp (cx 4 (by rfl)) Af) Af) Af) (Hs (cx 0 (by rfl)) Af HD (by intro _;rfl)) (by rfl) (by rfl) (by rfl)) (Ao (Ax (As Ef (As FN (AF (Bu K (by rfl)) (cx 0 (by rfl)) Af (λ_ _=>rfl)) Af) (cx 1 (by rfl))))))))),?_⟩
 unfold Fa at h
 split at h
 ·rename_i p m
  obtain⟨⟨l,f,hp⟩,h0,h1,q⟩:=h
  refine⟨p,[.int l,.int f],1,.int f,rfl,rfl,An.of hp,rfl,rfl,⟨λc=>?_,λc=>?_⟩⟩
  ·refine⟨p,[.int l,.int f],0,.int l,rfl,rfl,An.of hp,rfl,l,m,rfl,⟨h0,by omega⟩,λt ht=>?_⟩
   have hpt:p≠t:=A2 hp ht
   have hp':upd H t (.tup [.int (l / m),.int (l % m)]) p=some (.lst [.int l,.int f]):=by rw [Ap hpt];exact hp
   refine⟨t,[.int (l / m),.int (l % m)],rfl,Ae.of Ai,rfl,_,_,rfl,_,_,rfl,rfl,?_⟩
   refine⟨p,[.int l,.int f],0,0,rfl,rfl,hp',rfl,?_⟩
   exact q _ _ (Int.emod_nonneg _ (by omega)) (Int.emod_lt_of_pos _ h0) ((Ev.new ht).trans (Ev.pen hp')) ⟨l / m,f,Ai⟩
  ·have b1:∀x:Int,-(2 ^ 64)<x % 2147483629:=λx=>Int.lt_of_lt_of_le (by decide) (Int.emod_nonneg x (by decide))
   have b2:∀x:Int,x % 2147483629<2 ^ 64:=λx=>Int.lt_trans (Int.emod_lt_of_pos x (by decide)) (by decide)
   have g1:(0:Int)<2147483647:=by decide
   have g2:(0:Int)<2147483629:=by decide
   have g3:(0:Int)<2147483587:=by decide
   have c1: -(2 ^ 64)<(69621:Int)/\(69621:Int)<2 ^ 64:=by decide
   have c2: -(2 ^ 64)<(48271:Int)/\(48271:Int)<2 ^ 64:=by decide
   refine⟨p,[.int l,.int f],0,.int l,rfl,rfl,An.of hp,rfl,g1,.inr c1,g2,.inl ⟨b1 _,b2 _⟩,g3,.inr c2,g2,p,[.int l,.int f],0,0,rfl,rfl,hp,rfl,?_⟩
   refine⟨p,_,0,_,rfl,rfl,An.of Ai,rfl,⟨by decide,by decide⟩,h0,?_⟩
   exact q _ _ (Int.emod_nonneg _ (by omega)) (Int.emod_lt_of_pos _ h0) (Ev.pen hp) ⟨_,f,Ai⟩
 ·exact h.elim
end
end MF
end
section
namespace MF
open PySem PySem.Spec PyProof.Rows L2
variable {H H2 H' H3 : Hp} {ys zs : List V} {p p' t : Addr} {Good : PyData -> Prop} {i : Nat}
mutual
def B8:PyData->Bool
 | .list _=>false | .dict _=>false | .tuple ds=>Ey ds | _=>true
def Ey:List PyData->Bool
 | []=>true
 | d::ds=>B8 d && Ey ds
end
def TEv (H H':Hp):Prop:=∀a xs,H a=some (.tup xs)->H' a=some (.tup xs)
theorem TEv.trans {H1:Hp} (a:TEv H H1) (b:TEv H1 H2):TEv H H2:=λc o h=>b c o (a c o h)
theorem _root_.L2.Ev.tev {p:Addr}{H H':Hp} (h:Ev p H H'):TEv H H':=λa xs q=>h.tup q
theorem TEv.upd {a:Addr} (h:H a=some (.lst ys)):TEv H (upd H a (.lst zs)):=λb xs q=>by
 rw [Ap (Je q h (by intro z;cases z))];exact q
mutual
theorem Aa.tev (h:TEv H H'):∀(d:PyData) (v:V),B8 d=true->Aa p H d v->Aa p' H' d v
 | .none,v,_,q=>q
 | .bool _,v,_,q=>q
 | .int _,v,_,q=>q
 | .str _,v,_,q=>q
 | .tuple ds,v,n,q=>by
  unfold Aa at q ⊢
  obtain⟨a,xs,e,r,z⟩:=q
  exact⟨a,xs,e,h _ _ r,Ad.tev h ds xs (by unfold B8 at n;exact n) z⟩
 | .list ds,v,n,q=>by unfold B8 at n;cases n
 | .dict kvs,v,n,q=>by unfold B8 at n;cases n
theorem Ad.tev (h:TEv H H'):∀(ds:List PyData) (xs:List V),Ey ds=true->Ad p H ds xs->Ad p' H' ds xs
 | [],xs,_,q=>by unfold Ad at q ⊢;exact q
 | d::ds,xs,n,q=>by
  unfold Ad at q ⊢
  unfold Ey at n
  obtain⟨n1,n2⟩:=Bool.and_eq_true_iff.mp n
  obtain⟨x,r,e,z,zs⟩:=q
  exact⟨x,r,e,Aa.tev h d x n1 z,Ad.tev h ds r n2 zs⟩
end
theorem Gx {ds:List PyData} (h:∀d∈ds,B8 d=true):Ey ds=true:=by
 induction ds with
 | nil=>rfl
 | cons d ds ih=>unfold Ey;rw [h d List.mem_cons_self,ih λx hx=>h x (List.mem_cons_of_mem _ hx)];rfl
theorem _root_.L2.Ev.own {p b:Addr}{H H':Hp}{o:HO} (h:Ev p H H') (n:H b=none):Ev p H (upd H' b o):=λx u q=>(h x u q).elim .inl λr=> .inr (by rw [Ap (A2 q n)];exact r)
def GoodB (d:PyData):Prop:=∃m c:Int,d= .tuple [.int m,.int c]/\1<=m/\m<=9/\1<=c/\c<=9
def GoodE (d:PyData):Prop:=∃a f e:Int,d= .tuple [.int a,.int f,.int e]/\1<=a/\a<=9/\0<=f/\f<=7/\1<=e/\e<=8
theorem GoodB.nm {d:PyData} (h:GoodB d):B8 d=true:=by obtain⟨m,c,rfl,_⟩:=h;rfl
theorem GoodE.nm {d:PyData} (h:GoodE d):B8 d=true:=by obtain⟨m,c,e,rfl,_⟩:=h;rfl
structure GoodP (bs es:List PyData) (lo hi st:Int):Prop where
 b:∀d∈bs,GoodB d
 b1:1<=bs.length
 b4:bs.length<=4
 e:∀d∈es,GoodE d
 e4:es.length<=4
 lo0:0<=lo
 ls:lo<=st
 sh:st<=hi
 h4:hi<=40
def Md (bs es:List PyData) (lo hi st:Int):PyData:= .tuple [.tuple bs,.tuple es,.tuple [.int lo,.int hi,.int st]]
def Gy:Sp:=λvs H Q _=>match vs with | [.ref p,.int m]=>A9 p H/\1<=m/\m<=4/\∀v H' bs es lo hi st,GoodP bs es lo hi st->Aa p H' (Md bs es lo hi st) v->Ev p H H'->A9 p H'->Q v H' | _=>False
structure Filled (Good:PyData->Prop) (p b:Addr) (H H2:Hp) (i:Nat):Prop where
 ev:Ev p H H2
 pen:A9 p H2
 ex:∃xs ds,H2 b=some (.lst xs)/\Ad p H2 ds xs/\(∀d∈ds,Good d)/\ds.length=i
theorem Filled.step {b:Addr}{d:PyData}{xs:List V}{ds:List PyData} (nm:∀d,Good d->B8 d=true) (hx:H2 b=some (.lst xs)) (rs:Ad p H2 ds xs) (gd:∀d∈ds,Good d) (hl:ds.length=i) (e3:Ev p H2 H3) (nb:b≠p) (hb:H b=none) (ev:Ev p H H3) (pn:A9 p H3)
  (ht:H3 t=none) (rd:Aa p (upd H3 t (.tup ys)) d (.ref t)) (g:Good d):Filled Good p b H (upd (upd H3 t (.tup ys)) b (.lst (xs++[.ref t]))) (i+1):=by
 have hb3:H3 b=some (.lst xs):=e3.lst hx nb
 have hbt:b≠t:=A2 hb3 ht
 have hbt':upd H3 t (.tup ys) b=some (.lst xs):=by rw [Ap hbt];exact hb3
 have tv:TEv (upd H3 t (.tup ys)) (upd (upd H3 t (.tup ys)) b (.lst (xs++[.ref t]))):=TEv.upd hbt'
 have pn2:A9 p (upd H3 t (.tup ys)):=pn.new ht
 refine⟨(ev.trans (Ev.new ht)).own hb,?_,xs++[.ref t],ds++[d],Ai,?_,?_,by simp [hl]⟩
 ·obtain⟨l,f,e⟩:=pn2
  exact⟨l,f,by rw [Ap (Ne.symm nb)];exact e⟩
 ·exact(Ad.tev ((e3.trans (Ev.new ht)).tev.trans tv) ds xs (Gx λd h=>nm d (gd d h)) rs).append (.cons (Aa.tev tv d _ (nm d g) rd) .nil)
 ·intro x hx
  rcases List.mem_append.mp hx with h | h
  ·exact gd x h
  ·rw [List.mem_singleton.mp h];exact g
theorem Filled.done {b:Addr} (f:Filled Good p b H H2 i) (nb:b≠p) (e3:Ev p H2 H3):∃xs ds,H3 b=some (.lst xs)/\Ad p H3 ds xs/\(∀d∈ds,Good d)/\ds.length=i:=by
 obtain⟨xs,ds,h1,h2,h3,h4⟩:=f.ex
 exact⟨xs,ds,e3.lst h1 nb,Ad.ev e3 ds xs h2,h3,h4⟩
theorem Filled.other {b e:Addr}{H4 H7:Hp}{ws:List V} (nm:∀d,Good d->B8 d=true) (f:Filled Good p b H H4 i) (e47:Ev p H4 H7) (ht:H7 t=none) (he:H7 e=some (.lst ys)) (hHe:H e=none) (nb:b≠p) (neb:b≠e) (ne:e≠p) (pn:A9 p H7):
  Filled Good p b H (upd (upd H7 t (.tup zs)) e (.lst ws)) i:=by
 obtain⟨xs,ds,h1,h2,h3,h4⟩:=f.ex
 have h7:H7 b=some (.lst xs):=e47.lst h1 nb
 have het:upd H7 t (.tup zs) e=some (.lst ys):=by rw [Ap (A2 he ht)];exact he
 refine⟨((f.ev.trans e47).trans (Ev.new ht)).own hHe,?_,xs,ds,?_,?_,h3,h4⟩
 ·obtain⟨l,g,z⟩:=pn.new (o:= .tup zs) ht
  exact⟨l,g,by rw [Ap (Ne.symm ne)];exact z⟩
 ·rw [Ap neb,Ap (A2 h7 ht)];exact h7
 ·exact Ad.tev ((e47.trans (Ev.new ht)).tev.trans (TEv.upd het)) ds xs (Gx λd h=>nm d (h3 d h)) h2
theorem DH {n:Nat} (h:n<=1000):n<sizeLine:=Nat.lt_of_le_of_lt h (by decide)
section
variable {P : Program} {w : World} {K : PySem.W.Frag} {mg : Str -> Option Value} {base : Heap}
theorem sc__law_plant:Ay ["_law_pen_here","_law_most","_law_boilers","_law_turn","_law_engines","_law_low","_law_high","_law_start"] ["_law_pen_here","_law_most"] (Aw s__law_plant):=AB
theorem Ss (F:Df K mg "_law_plant" s__law_plant ["_law_pen_here","_law_most"]) (T:Tx mg) (D__law_draw:Fn P w K mg base 1 "_law_draw" ["_law_pen_here","_law_many"] Fa):Fn P w K mg base 2 "_law_plant" ["_law_pen_here","_law_most"] Gy:=by
 refine F.fn sc__law_plant (λvs H Q E h=>?_) (λf cdv A outer s H vs Q E hr h=>?_)
 ·unfold Gy at h;split at h;rfl;exact h.elim
 refine⟨_,(Ak (AH (i:=2) sc__law_plant.nd rfl (AD (by rfl)) (BF Cu) (by rfl) (AE (by rfl))) (Ak (Bp PassesOwn.never rfl (Cq rfl T.b_range (Al (As AO Af (Aj D__law_draw (hr.mono (by decide)) rfl (Aq (cx 0 (by rfl)) (cx 1 (by rfl)) (by rfl)) (by decide) (by rfl) (by rfl))) (by rfl)) (by rfl)) (Ag 3 sc__law_plant.nd (by rfl)) (Ao (BM (CM PySem.F.plainAttrs_list PySem.F.slot_list_append PySem.F.type_list_append CN (cx 2 (by rfl)) (Al (Bc (Aq (As AO Af (Aj D__law_draw (hr.mono (by decide)) rfl (Aq (cx 0 (by rfl)) (AF (Bu K (by rfl)) (BF (Aq Af Af (by rfl))) (Aj D__law_draw (hr.mono (by decide)) rfl (Aq (cx 0 (by rfl)) Af (by rfl)) (by decide) (by rfl) (by rfl)) (λ_ _=>rfl)) (by rfl)) (by decide) (by rfl) (by rfl))) (As AO Af (Aj D__law_draw (hr.mono (by decide)) rfl (Aq (cx 0 (by rfl)) Af (by rfl)) (by decide) (by rfl) (by rfl))) (by rfl))) (by rfl)) (by rfl) (by rfl) (by rfl) (by rfl) (by rfl)) (by rfl))) (by intro _;rfl)) (Ak (AH (i:=4) sc__law_plant.nd rfl (AD (by rfl)) (BF Cu) (by rfl) (AE (by rfl))) (Ak (Bp PassesOwn.never rfl (Cq rfl T.b_range (Al (Aj D__law_draw (hr.mono (by decide)) rfl (Aq (cx 0 (by rfl)) Af (by rfl)) (by decide) (by rfl) (by rfl)) (by rfl)) (by rfl)) (Ag 3 sc__law_plant.nd (by rfl)) (Ao (BM (CM PySem.F.plainAttrs_list PySem.F.slot_list_append PySem.F.type_list_append CN (cx 4 (by rfl)) (Al (Bc (AG (As AO Af (Aj D__law_draw (hr.mono (by decide)) rfl (Aq (cx 0 (by rfl)) (AF (Bu K (by rfl)) (BF (Aq Af Af (by rfl))) (Aj D__law_draw (hr.mono (by decide)) rfl (Aq (cx 0 (by rfl)) Af (by rfl)) (by decide) (by rfl) (by rfl)) (λ_ _=>rfl)) (by rfl)) (by decide) (by rfl) (by rfl))) (Aj D__law_draw (hr.mono (by decide)) rfl (Aq (cx 0 (by rfl)) Af (by rfl)) (by decide) (by rfl) (by rfl)) (As AO Af (Aj D__law_draw (hr.mono (by decide)) rfl (Aq (cx 0 (by rfl)) Af (by rfl)) (by decide) (by rfl) (by rfl))) (by rfl))) (by rfl)) (by rfl) (by rfl) (by rfl) (by rfl) (by rfl)) (by rfl))) (by intro _;rfl)) (Ak (AH (i:=5) sc__law_plant.nd rfl (AD (by rfl)) (AF (Bu K (by rfl)) (BF (BI Af Af (Aj D__law_draw (hr.mono (by decide)) rfl (Aq (cx 0 (by rfl)) Af (by rfl)) (by decide) (by rfl) (by rfl)) (Aj D__law_draw (hr.mono (by decide)) rfl (Aq (cx 0 (by rfl)) Af (by rfl)) (by decide) (by rfl) (by rfl)) (by rfl))) (Aj D__law_draw (hr.mono (by decide)) rfl (Aq (cx 0 (by rfl)) Af (by rfl)) (by decide) (by rfl) (by rfl)) (λ_ _=>rfl)) (by rfl) (AE (by rfl))) (Ak (AH (i:=6) sc__law_plant.nd rfl (AD (by rfl)) (AI (Fv rfl) rfl T.b_min boot_min (Aq Af (As AO (cx 5 (by rfl)) (AF (Bu K (by rfl)) (BF (BI Af (Aj D__law_draw (hr.mono (by decide)) rfl (Aq (cx 0 (by rfl)) Af (by rfl)) (by decide) (by rfl) (by rfl)) (Aj D__law_draw (hr.mono (by decide)) rfl (Aq (cx 0 (by rfl)) Af (by rfl)) (by decide) (by rfl) (by rfl)) Af (by rfl))) (Aj D__law_draw (hr.mono (by decide)) rfl (Aq (cx 0 (by rfl)) Af (by rfl)) (by decide) (by rfl) (by rfl)) (λ_ _=>rfl))) (by rfl)) (by decide) (by decide) (by rfl) (by rfl)) (by rfl) (AE (by rfl))) (Ak (AH (i:=7) sc__law_plant.nd rfl (AD (by rfl)) (AF (Bu K (by rfl)) (BF (AG (cx 5 (by rfl)) (cx 6 (by rfl)) (As AO (cx 5 (by rfl)) (Aj D__law_draw (hr.mono (by decide)) rfl (Aq (cx 0 (by rfl)) (As AO (As Bh (cx 6 (by rfl)) (cx 5 (by rfl))) Af) (by rfl)) (by decide) (by rfl) (by rfl))) (by rfl))) (Aj D__law_draw (hr.mono (by decide)) rfl (Aq (cx 0 (by rfl)) Af (by rfl)) (by decide) (by rfl) (by rfl)) (λ_ _=>rfl)) (by rfl) (AE (by rfl))) (Ao (Ax (Bc (AG (BB (Cw K (by rfl)) rfl T.b_tuple Ce (Al (cx 2 (by rfl)) (by rfl)) (by decide) (by decide) (by rfl) (by rfl)) (BB (Cw K (by rfl)) rfl T.b_tuple Ce (Al (cx 4 (by rfl)) (by rfl)) (by decide) (by decide) (by rfl) (by rfl)) (Bc (AG (cx 5 (by rfl)) (cx 6 (by rfl)) (cx 7 (by rfl)) (by rfl))) (by rfl)))))))))))),?_⟩
 unfold Gy at h
 split at h
 ·rename_i p m
  obtain⟨pn,m1,m4,q⟩:=h
  refine λb hb=>?_
  have nb:b≠p:=pn.ne hb
  refine⟨pn.new hb,by omega,by omega,λg1 H1 a1 b1 e1 pn1=>?_⟩
  have ev1:Ev p H H1:=(Ev.new hb).trans e1
  have hb1:H1 b=some (.lst []):=e1.lst Ai nb
  refine⟨1+g1,rfl,by omega,by omega,Dm (n:=(1+g1).toNat) (λi σ H2=>∃t,σ=[some (.ref p),some (.int m),some (.ref b),t,none,none,none,none]/\Filled GoodB p b H H2 i)
   ⟨none,rfl,ev1,pn1,[],[],hb1,.nil,(λ_ h=>nomatch h),rfl⟩ (λi σ H2 hi hP=>?_) fun σ H2 hP=>?_⟩
  ·obtain⟨t,rfl,ev,pn2,xs,ds,hx,rs,gd,hl⟩:=hP
   refine⟨.inl ⟨rfl,_,An.of hx⟩,λl1 hl1=>⟨pn2.new hl1,by decide,by decide,λg2 H3 a2 b2 e2 pn3=>?_⟩⟩
   obtain⟨v,hv,hat⟩:=DG (ns:=[9,4]) a2 (by simpa using b2)
   have hv':v=9\/v=4:=by simpa using hv
   refine⟨l1,_,g2,.int v,rfl,rfl,An.of (e2.lst Ai (pn2.ne hl1)),hat,pn3,by omega,by omega,λg3 H4 a3 b3 e3 pn4=>⟨pn4,by decide,by decide,λg4 H5 a4 b4 e4 pn5 t1 ht1=>?_⟩⟩
   have e25:Ev p H2 H5:=(Ev.new hl1).trans (e2.trans (e3.trans e4))
   refine⟨b,xs,.ref t1,rfl,rfl,by rw [Ap (A2 (e25.lst hx nb) ht1)];exact e25.lst hx nb,DH (by rw [<-rs.len,hl];omega),_,rfl,?_⟩
   exact Filled.step (λd h=>h.nm) hx rs gd hl e25 nb hb (ev.trans e25) pn5 ht1 (Aa.tup Ai (.cons Aa.int (.cons Aa.int .nil))) ⟨1+g3,1+g4,rfl,by omega,by omega,by omega,by omega⟩
  obtain⟨t,rfl,fb⟩:=hP
  refine λe he=>?_
  have ne:e≠p:=fb.pen.ne he
  have hne:H e=none:=by
   cases z:H e with
   | none=>rfl
   | some o=>exact((fb.ev e o z).elim (fun⟨x,_⟩=>absurd x ne) λx=>by rw [x] at he;cases he)
  have neb:e≠b:=by
   obtain⟨xs,ds,h1,_⟩:=fb.ex
   exact Ne.symm (A2 h1 he)
  refine⟨fb.pen.new he,by decide,by decide,λg6 H3 a6 b6 e6 pn3=>?_⟩
  have fb3:Filled GoodB p b H H3 (1+g1).toNat:=⟨fb.ev.trans ((Ev.new he).trans e6),pn3,fb.done nb ((Ev.new he).trans e6)⟩
  refine⟨g6,rfl,by omega,by omega,Dm (n:=g6.toNat) (λi σ H4=>∃t,σ=[some (.ref p),some (.int m),some (.ref b),t,some (.ref e),none,none,none]/\Filled GoodB p b H H4 (1+g1).toNat/\Filled GoodE p e H H4 i)
   ⟨_,rfl,fb3,fb3.ev,pn3,[],[],e6.lst Ai ne,.nil,(λ_ h=>nomatch h),rfl⟩ (λi σ H4 hi hP=>?_) fun σ H4 hP=>?_⟩
  ·obtain⟨t,rfl,fb4,ev,pn2,xs,ds,hx,rs,gd,hl⟩:=hP
   refine⟨.inl ⟨rfl,_,An.of hx⟩,λl1 hl1=>⟨pn2.new hl1,by decide,by decide,λg7 H5 a7 b7 e7 pn5=>?_⟩⟩
   obtain⟨v,hv,hat⟩:=DG (ns:=[3,9]) a7 (by simpa using b7)
   have hv':v=3\/v=9:=by simpa using hv
   refine⟨l1,_,g7,.int v,rfl,rfl,An.of (e7.lst Ai (pn2.ne hl1)),hat,pn5,by omega,by omega,λg8 H6 a8 b8 e8 pn6=>⟨pn6,by decide,by decide,λg9 H7 a9 b9 e9 pn7=>⟨pn7,by decide,by decide,λg10 H8 a10 b10 e10 pn8 t1 ht1=>?_⟩⟩⟩
   have e48:Ev p H4 H8:=(Ev.new hl1).trans (e7.trans (e8.trans (e9.trans e10)))
   have he8:=e48.lst hx ne
   refine⟨e,xs,.ref t1,rfl,rfl,by rw [Ap (A2 he8 ht1)];exact he8,DH (by rw [<-rs.len,hl];omega),_,rfl,?_,?_⟩
   ·exact Filled.other (λd h=>h.nm) fb4 e48 ht1 he8 hne nb (Ne.symm neb) ne pn8
   ·exact Filled.step (λd h=>h.nm) hx rs gd hl e48 ne hne (ev.trans e48) pn8 ht1 (Aa.tup Ai (.cons Aa.int (.cons Aa.int (.cons Aa.int .nil)))) ⟨1+g8,g9,1+g10,rfl,by omega,by omega,by omega,by omega,by omega,by omega⟩
  obtain⟨t,rfl,fb4,fe4⟩:=hP
  have pn4:=fb4.pen
  refine⟨pn4,by decide,by decide,λg7 H5 a7 b7 e7 pn5=>⟨pn5,by decide,by decide,λg8 H6 a8 b8 e8 pn6 l1 hl1=>⟨pn6.new hl1,by decide,by decide,λg9 H7 a9 b9 e9 pn7=>?_⟩⟩⟩
  obtain⟨low,hlow,hat⟩:=DG (ns:=[0,0,g7,g8]) a9 (by simpa using b9)
  have hlow':low=0\/low=0\/low=g7\/low=g8:=by simpa using hlow
  refine⟨l1,_,g9,.int low,rfl,rfl,An.of (e9.lst Ai (pn6.ne hl1)),hat,pn7,by decide,by decide,λg10 H8 a10 b10 e10 pn8=>⟨pn8,by decide,by decide,λg11 H9 a11 b11 e11 pn9 l2 hl2=>⟨pn9.new hl2,by decide,by decide,λg12 H10 a12 b12 e12 pn10=>?_⟩⟩⟩
  obtain⟨x,hx,hat2⟩:=DG (ns:=[0,g10,g11,40]) a12 (by simpa using b12)
  have hx':x=0\/x=g10\/x=g11\/x=40:=by simpa using hx
  refine⟨l2,_,g12,.int x,rfl,rfl,An.of (e12.lst Ai (pn9.ne hl2)),hat2,40,low+x,rfl,?_⟩
  have hhi:∃hi:Int,(if low+x<40 then low+x else 40)=hi/\low<=hi/\hi<=40:=by
   by_cases c:low+x<40
   ·exact⟨low+x,if_pos c,by omega,by omega⟩
   ·exact⟨40,if_neg c,by omega,by omega⟩
  obtain⟨hi,ehi,hi1,hi2⟩:=hhi
  rw [ehi]
  refine⟨pn10,by omega,by omega,λg13 H11 a13 b13 e13 pn11 l3 hl3=>⟨pn11.new hl3,by decide,by decide,λg14 H12 a14 b14 e14 pn12=>?_⟩⟩
  obtain⟨st,hst,hat3⟩:=DG (ns:=[low,hi,low+g13]) a14 (by simpa using b14)
  have hst':st=low\/st=hi\/st=low+g13:=by simpa using hst
  refine⟨l3,_,g14,.int st,rfl,rfl,An.of (e14.lst Ai (pn11.ne hl3)),hat3,?_⟩
  have e4C:Ev p H4 H12:=e7.trans (e8.trans ((Ev.new hl1).trans (e9.trans (e10.trans (e11.trans ((Ev.new hl2).trans (e12.trans (e13.trans ((Ev.new hl3).trans e14)))))))))
  obtain⟨xs,bs,hb8,rb8,gb,lb⟩:=fb4.done nb e4C
  obtain⟨ys,es,he8,re8,ge,le⟩:=fe4.done ne e4C
  refine⟨b,xs,rfl,.inl ⟨An.of hb8,λc1 hc1=>⟨e,ys,rfl,.inl ⟨An.of (by rw [Ap (A2 he8 hc1)];exact he8),λc2 hc2 c3 hc3 c4 hc4=>?_⟩⟩⟩⟩
  have nA:=Ab.new (o:= .tup xs) hc1
  have nB:=Ab.new (o:= .tup ys) hc2
  have nC:=Ab.new (o:= .tup [.int low,.int hi,.int st]) hc3
  have nD:=Ab.new (o:= .tup [.ref c1,.ref c2,.ref c3]) hc4
  have sAll:=nA.trans (nB.trans (nC.trans nD))
  refine q _ _ bs es low hi st ⟨gb,by omega,by omega,ge,by omega,by omega,by omega,by omega,hi2⟩ ?_ (fb4.ev.trans (e4C.trans (Ev.same sAll))) (pn12.same sAll)
  exact Aa.tup Ai (.cons (Aa.tup ((nB.trans (nC.trans nD)) _ _ Ai) (Ad.ev (Ev.same sAll) _ _ rb8)) (.cons (Aa.tup ((nC.trans nD) _ _ Ai) (Ad.ev (Ev.same sAll) _ _ re8)) (.cons (Aa.tup (nD _ _ Ai) (.cons Aa.int (.cons Aa.int (.cons Aa.int .nil)))) .nil)))
 ·exact h.elim
end
end MF
end
section
namespace MF
open PySem PySem.Spec PyProof.Rows L2
variable {p : Addr} {H : Hp} {v : V}
theorem B0 {i lo hi:Int} (h1:lo<=i) (h2:i<=hi):BR (.int i) lo hi=true:=by unfold BR;dsimp only;rw [decide_eq_true h1,decide_eq_true h2];rfl
theorem Gz {ds:List PyData}{lo hi:Int} (h1:lo<=(ds.length:Int)) (h2:(ds.length:Int)<=hi):A6 (.tuple ds) lo hi=true:=by unfold A6;dsimp only;rw [decide_eq_true h1,decide_eq_true h2];rfl
theorem Su {P:PL} (h:P.ok):Eu P.d=true:=by
 have b1:=h.b1
 have b4:=h.b4
 have e4:=h.e4
 have hb:Es (.tuple (P.bs.map bD))=true:=by
  unfold Es
  dsimp only
  rw [Gz (by rw [List.length_map];omega) (by rw [List.length_map];omega),Bool.true_and,List.all_eq_true]
  intro d hd
  obtain⟨q,hq,rfl⟩:=List.mem_map.mp hd
  obtain⟨q1,q2,q3,q4⟩:=h.b q hq
  unfold D3
  dsimp only
  rw [B0 q1 q2,B0 q3 q4];rfl
 have he:Et (.tuple (P.es.map eD))=true:=by
  unfold Et
  dsimp only
  rw [Gz (by rw [List.length_map];omega) (by rw [List.length_map];omega),Bool.true_and,List.all_eq_true]
  intro d hd
  obtain⟨q,hq,rfl⟩:=List.mem_map.mp hd
  obtain⟨q1,q2,q3,q4,q5,q6⟩:=h.e q hq
  unfold DF
  dsimp only
  rw [B0 q1 q2,B0 q3 q4,B0 q5 q6];rfl
 have h0:=h.lo0
 have h1:=h.ls
 have h2:=h.sh
 have h3:=h.h4
 have hm:D5 (.tuple [.int P.lo,.int P.hi,.int P.st])=true:=by
  unfold D5
  dsimp only
  rw [B0 (by omega) h3,B0 (by omega) h2,B0 h0 h1];rfl
 unfold Eu PL.d
 dsimp only
 rw [hb,he,hm];rfl
def GB:Sp:=λvs H Q _=>match vs with | [v]=>∃p P,PL.ok P/\Aa p H P.d v/\∀H',Ab H H'->Q .non H' | _=>False
def GC:Sp:=λvs H Q _=>match vs with | [v,.int nb,.int hs]=>∃p x n h,FT.ok x n h/\nb=(n:Int)/\hs=(h:Int)/\Aa p H x.d v/\∀H',Ab H H'->Q (.bl true) H' | _=>False
def GD:Sp:=λvs H Q _=>match vs with | [v,u]=>∃p P S,PL.ok P/\SY.ok S P.bs.length/\Aa p H P.d v/\Aa p H S.d u/\∀H',Ab H H'->Q (.bl true) H' | _=>False
def Fb:Sp:=λvs H Q _=>match vs with | [v,u]=>∃p P S,PL.ok P/\SY.ok S P.bs.length/\Aa p H P.d v/\Aa p H S.d u/\∀H',Ab H H'->Q .non H' | _=>False
def GE:Sp:=λvs H Q _=>match vs with | [.ref a,.int m]=>∃ws:List Bool,H a=some (.lst (ws.map wV))/\∀H',Ab H H'->Q (.int (By ws m)) H' | _=>False
def GF:Sp:=λvs H Q _=>match vs with | [v,.int b,.int h]=>∃p fs,Aa p H (.tuple (fs.map FT.d)) v/\fs.length<=1000/\∀a H',Ab H H'->H' a=some (.lst ((Bj fs b h).map wV))->Q (.ref a) H' | _=>False
def GG:Sp:=λvs H Q _=>match vs with | [v,u,.int h]=>∃p bs fs,Aa p H (.tuple (bs.map bD)) v/\Aa p H (.tuple (fs.map FT.d)) u/\bs.length<=1000/\fs.length<=1000/\ret H Q p (Bd (B5 bs fs h)) | _=>False
def GH:Sp:=λvs H Q _=>match vs with | [v,u]=>∃p P S,PL.ok P/\SY.ok S P.bs.length/\Aa p H P.d v/\Aa p H S.d u/\ret H Q p (Kn P S) | _=>False
def GI:Sp:=λvs H Q _=>match vs with | [v,.int h]=>∃p q,Aa p H (eD q) v/\1<=q.2.2/\Q (.int (drawn q h)) H | _=>False
def GJ:Sp:=λvs H Q _=>match vs with | [v,u]=>∃p P S,PL.ok P/\SY.ok S P.bs.length/\Aa p H P.d v/\Aa p H S.d u/\ret H Q p (Ic P S) | _=>False
theorem Aa.plant {P:PL} (r:Aa p H P.d v):∃A B E M xb xe,v= .ref A/\H A=some (.tup [.ref B,.ref E,.ref M])/\H B=some (.tup xb)/\Ad p H (P.bs.map bD) xb/\H E=some (.tup xe)/\Ad p H (P.es.map eD) xe/\H M=some (.tup [.int P.lo,.int P.hi,.int P.st]):=by
 unfold PL.d at r
 obtain⟨A,xs,rfl,hA,rs⟩:=Aa.shape r
 obtain⟨x,y,z,rfl,rx,ry,rz⟩:=Ad.three rs
 obtain⟨B,xb,rfl,hB,rb⟩:=Aa.shape rx
 obtain⟨E,xe,rfl,hE,re⟩:=Aa.shape ry
 obtain⟨M,xm,rfl,hM,rm⟩:=Aa.shape rz
 obtain⟨m1,m2,m3,rfl,r1,r2,r3⟩:=Ad.three rm
 unfold Aa at r1 r2 r3
 subst r1 r2 r3
 exact⟨A,B,E,M,xb,xe,rfl,hA,hB,rb,hE,re,hM⟩
theorem Aa.story {S:SY} (r:Aa p H S.d v):∃A B E xf,v= .ref A/\H A=some (.tup [.ref B,.ref E])/\H B=some (.tup (S.ex.map V.int))/\H E=some (.tup xf)/\Ad p H (S.fs.map FT.d) xf:=by
 unfold SY.d at r
 obtain⟨A,xs,rfl,hA,rs⟩:=Aa.shape r
 obtain⟨x,y,rfl,rx,ry⟩:=Ad.two rs
 obtain⟨B,xb,rfl,hB,rb⟩:=Aa.shape rx
 obtain⟨E,xe,rfl,hE,re⟩:=Aa.shape ry
 rw [Ad.ints rb] at hB
 exact⟨A,B,E,xe,rfl,hA,hB,hE,re⟩
section
variable {P : Program} {w : World} {K : PySem.W.Frag} {mg : Str -> Option Value} {base : Heap}
theorem Sv:Ay ["plant"] ["plant"] (Aw s_need_plant):=AB
theorem Sw (F:Df K mg "need_plant" s_need_plant ["plant"]) (T:Tx mg) (D_is_plant:Fn P w K mg base 5 "is_plant" ["thing"] Gu):Fn P w K mg base 6 "need_plant" ["plant"] GB:=by
 refine F.fn Sv (λvs H Q E h=>?_) (λf cdv A outer s H vs Q E hr h=>?_)
 ·unfold GB at h;split at h;rfl;exact h.elim
 refine⟨_,(Ao (A5 (CF (Cc (Aj D_is_plant (hr.mono (by decide)) rfl (Al (cx 0 (by rfl)) (by rfl)) (by decide) (by rfl) (by rfl)) (by intro _;rfl))) (Ao EE) A7)),?_⟩
 unfold GB at h
 split at h
 ·rename_i v
  obtain⟨p,P,ok,r,q⟩:=h
  refine⟨p,_,r,λb H' hb s=>⟨λc=>?_,λc=>q H' s⟩⟩
  rw [hb,Su ok] at c
  cases c
 ·exact h.elim
theorem sc_is_fault:Ay ["thing","boilers","hours","boiler","word","first","last"] ["thing","boilers","hours"] (Aw s_is_fault):=AB
theorem Sx (F:Df K mg "is_fault" s_is_fault ["thing","boilers","hours"]) (T:Tx mg) (D_is_tuple_of:Dh P w K mg base) (D_is_whole_from:DE P w K mg base):Fn P w K mg base 3 "is_fault" ["thing","boilers","hours"] GC:=by
 refine F.fn sc_is_fault (λvs H Q E h=>?_) (λf cdv A outer s H vs Q E hr h=>?_)
 ·unfold GC at h;split at h;rfl;exact h.elim
 refine⟨_,(Ak (A5 (CF (Cc (Aj D_is_tuple_of (hr.mono (by decide)) rfl (AG (cx 0 (by rfl)) Af Af (by rfl)) (by decide) (by rfl) (by rfl)) (by intro _;rfl))) (Ao (Ax CV)) A7) (Ak (A1 (cx 0 (by rfl)) (AC K (n:=4) (Ah (Ag 3 sc_is_fault.nd (by rfl)) (Ah (Ag 4 sc_is_fault.nd (by rfl)) (Ah (Ag 5 sc_is_fault.nd (by rfl)) (Ah (Ag 6 sc_is_fault.nd (by rfl)) AA (by rfl)) (by rfl)) (by rfl)) (by rfl)) (by rfl) (by rfl) (by rfl) (by rfl)) (by rfl) (by rfl) (by rfl)) (Ao (Ax (Bs (Aj D_is_whole_from (hr.mono (by decide)) rfl (AG (cx 3 (by rfl)) Af (As Bh (cx 1 (by rfl)) Af) (by rfl)) (by decide) (by rfl) (by rfl)) (Bs (D9 (Eh K (by rfl)) (cx 4 (by rfl)) (Bc (Aq Dk Dk (by rfl))) (by with_unfolding_all rfl)) (Bs (Aj D_is_whole_from (hr.mono (by decide)) rfl (AG (cx 6 (by rfl)) Af (As Bh (cx 2 (by rfl)) Af) (by rfl)) (by decide) (by rfl) (by rfl)) (Cp (Aj D_is_whole_from (hr.mono (by decide)) rfl (AG (cx 5 (by rfl)) Af (cx 6 (by rfl)) (by rfl)) (by decide) (by rfl) (by rfl)))))))))),?_⟩
 unfold GC at h
 split at h
 ·rename_i v nb hs
  obtain⟨p,x,n,k,ok,rfl,rfl,r,q⟩:=h
  obtain⟨o1,o2,o3,o4,o5⟩:=ok
  refine⟨p,_,r,λb hb=>⟨λc=>?_,λc=>?_⟩⟩
  ·rw [hb] at c;cases c
  ·obtain⟨l,xs,rfl,hl,rs⟩:=Aa.shape r
   obtain⟨y1,y2,y3,y4,rfl,r1,r2,r3,r4⟩:=Ad.four rs
   unfold Aa at r1 r2 r3 r4
   subst r1 r2 r3 r4
   refine⟨l,_,rfl,Ae.of hl,rfl,_,_,rfl,_,_,rfl,_,_,rfl,_,_,rfl,rfl,p,.int x.b,Aa.int,λb1 e1=>⟨λ_=>?_,λc1=>?_⟩⟩
   ·refine λt ht=>⟨t,_,rfl,.inr (Ae.of Ai),rfl,rfl,⟨λ_=>?_,λc2=>?_⟩⟩
    ·refine⟨p,.int x.l,Aa.int,λb2 e2=>⟨λ_=>⟨p,.int x.f,Aa.int,λb3 e3=>?_⟩,λc2=>?_⟩⟩
     ·rw [B0 o3 o4] at e3
      subst e3
      exact q _ (Ab.new ht)
     ·rw [B0 (by omega) (by omega)] at e2
      rw [e2] at c2;cases c2
    ·rw [if_neg (by decide)] at c2
     have:=Pd x.out
     unfold wV at this
     rw [this] at c2;cases c2
   ·rw [B0 o1 (by omega)] at e1
    rw [e1] at c1;cases c1
 ·exact h.elim
theorem sc_is_story:Ay ["plant","thing","extra","faults"] ["plant","thing"] (Aw s_is_story):=AB
theorem Sy (F:Df K mg "is_story" s_is_story ["plant","thing"]) (T:Tx mg) (D_is_fault:Fn P w K mg base 3 "is_fault" ["thing","boilers","hours"] GC) (D_is_tuple_of:Dh P w K mg base) (D_is_whole_from:DE P w K mg base) (D_need_plant:Fn P w K mg base 6 "need_plant" ["plant"] GB):Fn P w K mg base 7 "is_story" ["plant","thing"] GD:=by
 obtain⟨t_MOST_EXTRA,g_MOST_EXTRA⟩:=T.g_MOST_EXTRA
 obtain⟨t_MOST_FAULTS,g_MOST_FAULTS⟩:=T.g_MOST_FAULTS
 obtain⟨t_MOST_HOURS,g_MOST_HOURS⟩:=T.g_MOST_HOURS
 refine F.fn sc_is_story (λvs H Q E h=>?_) (λf cdv A outer s H vs Q E hr h=>?_)
 ·unfold GD at h;split at h;rfl;exact h.elim
 refine⟨_,(Ak (BM (Aj D_need_plant (hr.mono (by decide)) rfl (Al (cx 0 (by rfl)) (by rfl)) (by decide) (by rfl) (by rfl)) (by rfl)) (Ak (A5 (CF (Cc (Aj D_is_tuple_of (hr.mono (by decide)) rfl (AG (cx 1 (by rfl)) Af Af (by rfl)) (by decide) (by rfl) (by rfl)) (by intro _;rfl))) (Ao (Ax CV)) A7) (Ak (A1 (cx 1 (by rfl)) (AC K (n:=2) (Ah (Ag 2 sc_is_story.nd (by rfl)) (Ah (Ag 3 sc_is_story.nd (by rfl)) AA (by rfl)) (by rfl)) (by rfl) (by rfl) (by rfl) (by rfl)) (by rfl) (by rfl) (by rfl)) (Ao (Ax (Bs (Aj D_is_tuple_of (hr.mono (by decide)) rfl (AG (cx 2 (by rfl)) Af (Co (v:= .int 8) rfl g_MOST_HOURS ⟨t_MOST_HOURS,rfl⟩ (by decide)) (by rfl)) (by decide) (by rfl) (by rfl)) (Bs (AI (FP rfl) rfl T.b_all boot_all (Al (Bx ["units"] [none] rfl (BW K (cx 2 (by rfl)) (by rfl)) (AS.of rfl) (λ_ _ _ _=>(Ag 0 (AN (by rfl)) (by rfl))) (λ_ _ _ _=>Bq) (λ_ _ _ _=>(Aj D_is_whole_from (hr.mono (by decide)) rfl (AG (cx 0 (by rfl)) Af (Co (v:= .int 20) rfl g_MOST_EXTRA ⟨t_MOST_EXTRA,rfl⟩ (by decide)) (by rfl)) (by decide) (by rfl) (by rfl))) (by intro _;rfl)) (by rfl)) (by decide) (by decide) (by rfl) (by rfl)) (Bs (Aj D_is_tuple_of (hr.mono (by decide)) rfl (AG (cx 3 (by rfl)) Af (Co (v:= .int 4) rfl g_MOST_FAULTS ⟨t_MOST_FAULTS,rfl⟩ (by decide)) (by rfl)) (by decide) (by rfl) (by rfl)) (Cp (AI (FP rfl) rfl T.b_all boot_all (Al (Bx ["part","extra","plant"] [none,some 2,some 0] rfl (BW K (cx 3 (by rfl)) (by rfl)) (AS.of rfl) (λ_ _ _ _=>(Ag 0 (AN (by rfl)) (by rfl))) (λ_ _ _ _=>Bq) (λ_ _ _ _=>(Aj D_is_fault (hr.mono (by decide)) rfl (AG (cx 0 (by rfl)) (AI (BG K (by rfl)) rfl T.b_len PySem.boot_len (Al (AF (AW K (by rfl)) (cx 2 (by rfl)) Af (λ_ _=>rfl)) (by rfl)) (by decide) (by decide) (by rfl) (by rfl)) (AI (BG K (by rfl)) rfl T.b_len PySem.boot_len (Al (cx 1 (by rfl)) (by rfl)) (by decide) (by decide) (by rfl) (by rfl)) (by rfl)) (by decide) (by rfl) (by rfl))) (by intro _;rfl)) (by rfl)) (by decide) (by decide) (by rfl) (by rfl))))))))))),?_⟩
 unfold GD at h
 split at h
 ·rename_i v u
  obtain⟨p,P,S,ok,so,r,ru,q⟩:=h
  refine⟨p,P,ok,r,λH1 s1=>⟨p,S.d,Aa.ev (Ev.same s1) _ _ ru,λb hb=>⟨λc=>?_,λc=>?_⟩⟩⟩
  ·rw [hb] at c;cases c
  ·obtain⟨A,B,E,xf,rfl,hA,hB,hE,rf⟩:=Aa.story (Aa.ev (Ev.same s1) _ _ ru)
   obtain⟨PA,PB,PE,PM,xb,xe,rfl,pA,pB,rb,pE,re,pM⟩:=Aa.plant (Aa.ev (Ev.same s1) _ _ r)
   have x1:=so.x1
   have x8:=so.x8
   have f4:=so.f4
   have lf:=rf.len
   rw [List.length_map] at lf
   have lb:=rb.len
   rw [List.length_map] at lb
   refine⟨A,_,rfl,Ae.of hA,rfl,_,_,rfl,_,_,rfl,rfl,p,_,Aa.row hB,λb1 e1=>⟨λ_=>?_,λc1=>?_⟩⟩
   ·refine⟨B,rfl,⟨_,Ae.of hB⟩,B4 (xs:=S.ex.map V.int) (λi ys H'=>Ab H1 H'/\ys=List.replicate i (V.bl true)) (by rw [List.length_map];omega) ⟨Ab.refl _,rfl⟩ (λi ys H' h=>by rw [h.2,List.length_replicate];omega) (λi ys H' _ h=>Ae.of (h.1 _ _ hB)) (λi x ys H' hx h=>?_) λys H' h=>?_⟩
    ·rw [List.getElem?_map] at hx
     cases z:S.ex[i]? with
     | none=>rw [z] at hx;cases hx
     | some n=>
      rw [z] at hx
      cases hx
      obtain⟨n0,n20⟩:=so.x n (List.mem_of_getElem? z)
      refine⟨trivial,λ_=>⟨p,.int n,Aa.int,λb e=>⟨h.1,?_⟩⟩,λc=>by cases c⟩
      rw [B0 n0 n20] at e
      rw [h.2,e,List.replicate_succ']
    ·intro m hm
     refine⟨m,List.replicate S.ex.length true,rfl,by rw [Ai,h.2,List.length_map,List.map_replicate],⟨λ_=>?_,λc=>?_⟩⟩
     ·have s2:Ab H1 (upd H' m (.lst ys)):=h.1.trans (Ab.new hm)
      refine⟨p,_,Aa.tup (s2 _ _ hE) (Ad.ev (Ev.same s2) _ _ rf),λb2 e2=>⟨λ_=>?_,λc2=>?_⟩⟩
      ·refine⟨E,rfl,⟨_,Ae.of (s2 _ _ hE)⟩,B4 (xs:=xf) (λi zs H2=>Ab H1 H2/\zs=List.replicate i (V.bl true)) (by omega) ⟨s2,rfl⟩ (λi ys H' h=>by rw [h.2,List.length_replicate];omega) (λi ys H' _ h=>Ae.of (h.1 _ _ hE)) (λi x zs H2 hx h2=>?_) λzs H2 h2=>?_⟩
       ·obtain⟨f,hf,rd⟩:=Ad.mapGot rf hx
        refine⟨⟨rfl,rfl,trivial⟩,λ_=>?_,λc=>by cases c⟩
        refine⟨PA,_,0,.ref PB,rfl,rfl,Ae.of (h2.1 _ _ pA),rfl,PB,xb,rfl,.inr (Ae.of (h2.1 _ _ pB)),B,_,rfl,.inr (Ae.of (h2.1 _ _ hB)),?_⟩
        refine⟨p,f,P.bs.length,S.ex.length,so.f f (List.mem_of_getElem? hf),by rw [lb],by rw [List.length_map],Aa.ev (Ev.same h2.1) _ _ rd,λH3 s3=>⟨h2.1.trans s3,?_⟩⟩
        rw [h2.2,List.replicate_succ']
       ·intro m2 hm2
        refine⟨m2,List.replicate xf.length true,rfl,by rw [Ai,h2.2,List.map_replicate],?_⟩
        have ea:(List.replicate xf.length true).all id=true:=by simp
        rw [ea]
        exact q _ (s1.trans (h2.1.trans (Ab.new hm2)))
      ·rw [Gz (by rw [List.length_map];omega) (by rw [List.length_map];omega)] at e2
       rw [e2] at c2;cases c2
     ·have ea:(List.replicate S.ex.length true).all id=true:=by simp
      rw [ea] at c;cases c
   ·rw [Gz (by rw [List.length_map];omega) (by rw [List.length_map];omega)] at e1
    rw [e1] at c1;cases c1
 ·exact h.elim
theorem Sz:Ay ["plant","story"] ["plant","story"] (Aw s_need_story):=AB
theorem SC (F:Df K mg "need_story" s_need_story ["plant","story"]) (T:Tx mg) (D_is_story:Fn P w K mg base 7 "is_story" ["plant","thing"] GD):Fn P w K mg base 8 "need_story" ["plant","story"] Fb:=by
 refine F.fn Sz (λvs H Q E h=>?_) (λf cdv A outer s H vs Q E hr h=>?_)
 ·unfold Fb at h;split at h;rfl;exact h.elim
 refine⟨_,(Ao (A5 (CF (Cc (Aj D_is_story (hr.mono (by decide)) rfl (Aq (cx 0 (by rfl)) (cx 1 (by rfl)) (by rfl)) (by decide) (by rfl) (by rfl)) (by intro _;rfl))) (Ao EE) A7)),?_⟩
 unfold Fb at h
 split at h
 ·rename_i v u
  obtain⟨p,P,S,ok,so,r,ru,q⟩:=h
  exact⟨p,P,S,ok,so,r,ru,λH' s=>⟨λc=>(by cases c),λc=>q H' s⟩⟩
 ·exact h.elim
theorem SD:Ay ["words","make"] ["words","make"] (Aw s_cap_under):=AB
theorem SF (F:Df K mg "cap_under" s_cap_under ["words","make"]) (T:Tx mg)  :Fn P w K mg base 1 "cap_under" ["words","make"] GE:=by
 refine F.fn SD (λvs H Q E h=>?_) (λf cdv A outer s H vs Q E hr h=>?_)
 ·unfold GE at h;split at h;rfl;exact h.elim
 refine⟨_,(Ak (A5 (A4 (Eh K (by rfl)) Dk (cx 0 (by rfl)) (by with_unfolding_all rfl)) (Ao (Ax Af)) A7) (Ak (A5 (A4 (Eh K (by rfl)) Dk (cx 0 (by rfl)) (by with_unfolding_all rfl)) (Ao (Ax (As FN (cx 1 (by rfl)) Af))) A7) (Ao (Ax (cx 1 (by rfl)))))),?_⟩
 unfold GE at h
 split at h
 ·rename_i a m
  obtain⟨ws,ha,q⟩:=h
  refine⟨a,_,rfl,.inl (An.of ha),rfl,FY,⟨λc=>?_,λc=>?_⟩⟩
  ·rw [if_neg (by decide),FX] at c
   have e:By ws m=0:=by unfold By;rw [if_pos c]
   rw [e] at q
   exact q _ (Ab.refl _)
  ·rw [if_neg (by decide),FX] at c
   refine⟨a,_,rfl,.inl (An.of ha),rfl,FY,⟨λc2=>?_,λc2=>?_⟩⟩
   ·rw [if_neg (by decide),Ih] at c2
    have e:By ws m=m / 2:=by unfold By;rw [if_neg (by rw [c];decide),if_pos c2]
    rw [e] at q
    exact⟨⟨by decide,by decide⟩,q _ (Ab.refl _)⟩
   ·rw [if_neg (by decide),Ih] at c2
    have e:By ws m=m:=by unfold By;rw [if_neg (by rw [c];decide),if_neg (by rw [c2];decide)]
    rw [e] at q
    exact q _ (Ab.refl _)
 ·exact h.elim
theorem SG:Ay ["faults","boiler","hour"] ["faults","boiler","hour"] (Aw s_words_for):=AB
theorem SH (F:Df K mg "words_for" s_words_for ["faults","boiler","hour"]) (T:Tx mg)  :Fn P w K mg base 1 "words_for" ["faults","boiler","hour"] GF:=by
 refine F.fn SG (λvs H Q E h=>?_) (λf cdv A outer s H vs Q E hr h=>?_)
 ·unfold GF at h;split at h;rfl;exact h.elim
 refine⟨_,(Ao (Ax (Bx ["at","word","first","last","boiler","hour"] [none,none,none,none,some 1,some 2] rfl (BW K (cx 0 (by rfl)) (by rfl)) (AS.of rfl) (λ_ _ _ _=>(AC K (n:=4) (Ah (Ag 0 (AN (by rfl)) (by rfl)) (Ah (Ag 1 (AN (by rfl)) (by rfl)) (Ah (Ag 2 (AN (by rfl)) (by rfl)) (Ah (Ag 3 (AN (by rfl)) (by rfl)) AA (by rfl)) (by rfl)) (by rfl)) (by rfl)) (by rfl) (by rfl) (by rfl) (by rfl))) (λ_ _ _ _=>(FB (PW.pt (FO (A4 DM (cx 0 (by rfl)) (cx 4 (by rfl)) (A3 _)) (Hq (OG Dq Dq (cx 2 (by rfl)) (cx 5 (by rfl)) (cx 3 (by rfl)) (by with_unfolding_all rfl))))))) (λ_ _ _ _=>(cx 1 (by rfl))) (by intro _;rfl)))),?_⟩
 unfold GF at h
 split at h
 ·rename_i v b hr'
  obtain⟨p,fs,r,hl,q⟩:=h
  obtain⟨A,xs,rfl,hA,rs⟩:=Aa.shape r
  have ln:=rs.len
  rw [List.length_map] at ln
  refine⟨A,rfl,⟨xs,Ae.of hA⟩,B4 (xs:=xs) (λi ys H'=>Ab H H'/\ys=(Bj (fs.take i) b hr').map wV) (by omega) ⟨Ab.refl _,rfl⟩ (λi ys H' h=>?_) (λi ys H' _ h=>Ae.of (h.1 _ _ hA)) (λi x ys H' hx h=>?_) λys H' h=>?_⟩
  ·rw [h.2,List.length_map]
   unfold Bj
   rw [List.length_map]
   exact Nat.le_trans (List.length_filter_le _ _) (by rw [List.length_take];omega)
  ·obtain⟨f,hf,rd⟩:=Ad.mapGot rs hx
   obtain⟨l,zs,rfl,hl',rz⟩:=Aa.shape (Aa.ev (Ev.same h.1) _ _ rd)
   obtain⟨y1,y2,y3,y4,rfl,r1,r2,r3,r4⟩:=Ad.four rz
   unfold Aa at r1 r2 r3 r4
   subst r1 r2 r3 r4
   have nx:=Ko (b:=b) (h:=hr') hf
   have no:BP b hr' f=false->Ab H H'/\ys=(Bj (fs.take (i+1)) b hr').map wV:=λe=>⟨h.1,by rw [nx,e,if_neg (by decide)];exact h.2⟩
   refine⟨l,_,rfl,Ae.of hl',rfl,_,_,rfl,_,_,rfl,_,_,rfl,_,_,rfl,rfl,⟨rfl,rfl,trivial⟩,rfl,⟨λc1=>⟨λc2=>⟨λc3=>?_,λc3=>no ?_⟩,λc2=>⟨λz=>(by cases z),λ_=>no ?_⟩⟩,λc1=>⟨λz=>(by cases z),λ_=>no ?_⟩⟩⟩
   ·have e:BP b hr' f=true:=by
     rw [Ca] at c1
     unfold BP;rw [c1,c2,c3];rfl
    refine⟨h.1,?_⟩
    rw [nx,if_pos e,List.map_append,h.2];rfl
   ·unfold BP;rw [c3,Bool.and_false]
   ·unfold BP;rw [c2,Bool.and_false,Bool.false_and]
   ·rw [Ca] at c1
    unfold BP;rw [c1,Bool.false_and,Bool.false_and]
  ·intro m hm
   refine q m _ (h.1.trans (Ab.new hm)) ?_
   rw [Ai,h.2,List.take_of_length_le (by omega)]
 ·exact h.elim
theorem SI:Ay ["boilers","faults","hour"] ["boilers","faults","hour"] (Aw s_caps_in):=AB
theorem SJ (F:Df K mg "caps_in" s_caps_in ["boilers","faults","hour"]) (T:Tx mg) (D_cap_under:Fn P w K mg base 1 "cap_under" ["words","make"] GE) (D_words_for:Fn P w K mg base 1 "words_for" ["faults","boiler","hour"] GF):Fn P w K mg base 2 "caps_in" ["boilers","faults","hour"] GG:=by
 refine F.fn SI (λvs H Q E h=>?_) (λf cdv A outer s H vs Q E hr h=>?_)
 ·unfold GG at h;split at h;rfl;exact h.elim
 refine⟨_,(Ao (Ax (BB (Cw K (by rfl)) rfl T.b_tuple Ce (Al (Bx ["at","make","coal","faults","hour"] [none,none,none,some 1,some 2] rfl (FV P w K rfl T.b_enumerate (Al (cx 0 (by rfl)) (by rfl)) (by rfl) (by rfl) (by rfl) (by rfl)) (AS.of rfl) (λ_ _ _ _=>(AC K (n:=2) (Ah (Ag 0 (AN (by rfl)) (by rfl)) (Ah (AC K (n:=2) (Ah (Ag 1 (AN (by rfl)) (by rfl)) (Ah (Ag 2 (AN (by rfl)) (by rfl)) AA (by rfl)) (by rfl)) (by rfl) (by rfl) (by rfl) (by rfl)) AA (by rfl)) (by rfl)) (by rfl) (by rfl) (by rfl) (by rfl))) (λ_ _ _ _=>Bq) (λ_ _ _ _=>(Aj D_cap_under (hr.mono (by decide)) rfl (Aq (Aj D_words_for (hr.mono (by decide)) rfl (AG (cx 3 (by rfl)) (cx 0 (by rfl)) (cx 4 (by rfl)) (by rfl)) (by decide) (by rfl) (by rfl)) (cx 1 (by rfl)) (by rfl)) (by decide) (by rfl) (by rfl))) (by intro _;rfl)) (by rfl)) (by decide) (by decide) (by rfl) (by rfl)))),?_⟩
 unfold GG at h
 split at h
 ·rename_i v u hour
  obtain⟨p,bs,fs,r,ru,lb,lf,q⟩:=h
  obtain⟨A,xs,rfl,hA,rs⟩:=Aa.shape r
  have ln:=rs.len
  rw [List.length_map] at ln
  refine⟨A,rfl,⟨xs,Ae.of hA⟩,walk_enum (xs:=xs) (λi ys H'=>Ab H H'/\ys=((B5 bs fs hour).take i).map V.int) (by omega) ⟨Ab.refl _,rfl⟩ (λi ys H' h=>by rw [h.2,List.length_map,List.length_take];omega) (λi ys H' h=>Ae.of (h.1 _ _ hA)) (λi x ys H' T hx h hT=>?_) λys H' h=>?_⟩
  ·obtain⟨f,hf,rd⟩:=Ad.mapGot rs hx
   have s2:Ab H (upd H' T (.tup [.int i,x])):=h.1.trans (Ab.new hT)
   obtain⟨l,zs,rfl,hl',rz⟩:=Aa.shape (Aa.ev (Ev.same s2) _ _ rd)
   obtain⟨y1,y2,rfl,r1,r2⟩:=Ad.two rz
   unfold Aa at r1 r2
   subst r1 r2
   refine⟨T,_,rfl,Ae.of Ai,rfl,_,_,rfl,_,_,rfl,l,_,rfl,Ae.of hl',rfl,_,_,rfl,_,_,rfl,rfl,rfl,⟨rfl,rfl,trivial⟩,λ_=>?_,λz=>by cases z⟩
   refine⟨p,fs,Aa.ev (Ev.same s2) _ _ ru,lf,λa H3 s3 ha=>⟨_,ha,λH4 s4=>⟨s2.trans (s3.trans s4),?_⟩⟩⟩
   rw [Bk (Id hf),List.map_append,h.2];rfl
  ·intro m hm
   refine⟨m,_,rfl,.inl ⟨An.of Ai,λt ht=>?_⟩⟩
   refine q _ _ (h.1.trans ((Ab.new hm).trans (Ab.new ht))) (Aa.row ?_)
   rw [Ai,h.2,List.take_of_length_le (by rw [Ie];omega)]
 ·exact h.elim
theorem sc_caps_of:Ay ["plant","story","extra","faults"] ["plant","story"] (Aw s_caps_of):=AB
theorem SK (F:Df K mg "caps_of" s_caps_of ["plant","story"]) (T:Tx mg) (D_caps_in:Fn P w K mg base 2 "caps_in" ["boilers","faults","hour"] GG) (D_need_story:Fn P w K mg base 8 "need_story" ["plant","story"] Fb):Fn P w K mg base 9 "caps_of" ["plant","story"] GH:=by
 refine F.fn sc_caps_of (λvs H Q E h=>?_) (λf cdv A outer s H vs Q E hr h=>?_)
 ·unfold GH at h;split at h;rfl;exact h.elim
 refine⟨_,(Ak (BM (Aj D_need_story (hr.mono (by decide)) rfl (Aq (cx 0 (by rfl)) (cx 1 (by rfl)) (by rfl)) (by decide) (by rfl) (by rfl)) (by rfl)) (Ak (A1 (cx 1 (by rfl)) (AC K (n:=2) (Ah (Ag 2 sc_caps_of.nd (by rfl)) (Ah (Ag 3 sc_caps_of.nd (by rfl)) AA (by rfl)) (by rfl)) (by rfl) (by rfl) (by rfl) (by rfl)) (by rfl) (by rfl) (by rfl)) (Ao (Ax (BB (Cw K (by rfl)) rfl T.b_tuple Ce (Al (Bx ["hour","faults","plant"] [none,some 3,some 0] rfl (Cq rfl T.b_range (Al (AI (BG K (by rfl)) rfl T.b_len PySem.boot_len (Al (cx 2 (by rfl)) (by rfl)) (by decide) (by decide) (by rfl) (by rfl)) (by rfl)) (by rfl)) (AS.of rfl) (λ_ _ _ _=>(Ag 0 (AN (by rfl)) (by rfl))) (λ_ _ _ _=>Bq) (λ_ _ _ _=>(Aj D_caps_in (hr.mono (by decide)) rfl (AG (AF (AW K (by rfl)) (cx 2 (by rfl)) Af (λ_ _=>rfl)) (cx 1 (by rfl)) (cx 0 (by rfl)) (by rfl)) (by decide) (by rfl) (by rfl))) (by intro _;rfl)) (by rfl)) (by decide) (by decide) (by rfl) (by rfl)))))),?_⟩
 unfold GH at h
 split at h
 ·rename_i v u
  obtain⟨p,P,S,ok,so,r,ru,q⟩:=h
  refine⟨p,P,S,ok,so,r,ru,λH1 s1=>?_⟩
  obtain⟨A,B,E,xf,rfl,hA,hB,hE,rf⟩:=Aa.story (Aa.ev (Ev.same s1) _ _ ru)
  obtain⟨PA,PB,PE,PM,xb,xe,rfl,pA,pB,rb,pE,re,pM⟩:=Aa.plant (Aa.ev (Ev.same s1) _ _ r)
  have x8:=so.x8
  have f4:=so.f4
  have b4:=ok.b4
  refine⟨A,_,rfl,Ae.of hA,rfl,_,_,rfl,_,_,rfl,rfl,B,_,rfl,.inr (Ae.of hB),_,rfl,by omega,by rw [List.length_map];omega,J0 (n:=(S.ex.map V.int).length) (λi ys H'=>Ab H1 H'/\Ad p H' (((caps P S).take i).map Bd) ys) (by rw [List.length_map];omega) ⟨Ab.refl _,.nil⟩ (λi ys H' h=>by rw [<-h.2.len,List.length_map,List.length_take];omega) (λi ys H' hi h=>?_) λys H' h=>?_⟩
  ·rw [List.length_map] at hi
   refine⟨⟨rfl,rfl,trivial⟩,λ_=>?_,λz=>by cases z⟩
   refine⟨PA,_,0,.ref PB,rfl,rfl,Ae.of (h.1 _ _ pA),rfl,p,P.bs,S.fs,Aa.tup (h.1 _ _ pB) (Ad.ev (Ev.same h.1) _ _ rb),Aa.tup (h.1 _ _ hE) (Ad.ev (Ev.same h.1) _ _ rf),by omega,by omega,λv2 H2 s2 r2=>⟨h.1.trans s2,?_⟩⟩
   rw [Int.zero_add] at r2
   rw [Bk (ET hi),List.map_append]
   exact Ad.snoc (Ad.ev (Ev.same s2) _ _ h.2) r2
  ·intro m hm
   refine⟨m,_,rfl,.inl ⟨An.of Ai,λt ht=>?_⟩⟩
   have s3:=(Ab.new (o:= .lst ys) hm).trans (Ab.new (o:= .tup ys) ht)
   refine q _ _ (s1.trans (h.1.trans s3)) (Aa.tup Ai ?_)
   have r3:=Ad.ev (Ev.same s3) _ _ h.2
   rw [List.take_of_length_le (by rw [CO,List.length_map];exact Nat.le_refl _)] at r3
   exact r3
 ·exact h.elim
theorem sc_drawn_by:Ay ["engine","hour","draw","first","every"] ["engine","hour"] (Aw s_drawn_by):=AB
theorem SL (F:Df K mg "drawn_by" s_drawn_by ["engine","hour"]) (T:Tx mg)  :Fn P w K mg base 1 "drawn_by" ["engine","hour"] GI:=by
 refine F.fn sc_drawn_by (λvs H Q E h=>?_) (λf cdv A outer s H vs Q E hr h=>?_)
 ·unfold GI at h;split at h;rfl;exact h.elim
 refine⟨_,(Ak (A1 (cx 0 (by rfl)) (AC K (n:=3) (Ah (Ag 2 sc_drawn_by.nd (by rfl)) (Ah (Ag 3 sc_drawn_by.nd (by rfl)) (Ah (Ag 4 sc_drawn_by.nd (by rfl)) AA (by rfl)) (by rfl)) (by rfl)) (by rfl) (by rfl) (by rfl) (by rfl)) (by rfl) (by rfl) (by rfl)) (Ak (A5 (PW.pt (Kc (A4 DU (cx 1 (by rfl)) (cx 3 (by rfl)) (A3 _)) (Jj (A4 Hy (As Ef (As Bh (cx 1 (by rfl)) (cx 3 (by rfl))) (cx 4 (by rfl))) Af (A3 _))))) (Ao (Ax Af)) A7) (Ao (Ax (cx 2 (by rfl)))))),?_⟩
 unfold GI at h
 split at h
 ·rename_i v hour
  obtain⟨p,e,r,e1,q⟩:=h
  obtain⟨A,xs,rfl,hA,rs⟩:=Aa.shape r
  obtain⟨y1,y2,y3,rfl,r1,r2,r3⟩:=Ad.three rs
  unfold Aa at r1 r2 r3
  subst r1 r2 r3
  refine⟨A,_,rfl,Ae.of hA,rfl,_,_,rfl,_,_,rfl,_,_,rfl,rfl,⟨λc=>⟨λ_=>?_,λz=>by cases z⟩,λc=>⟨by omega,rfl,⟨λc2=>?_,λc2=>?_⟩⟩⟩⟩
  ·have z:drawn e hour=0:=by unfold drawn;rw [if_pos (.inl (of_decide_eq_true c))]
   rw [z] at q;exact q
  ·have z:drawn e hour=0:=by
    unfold drawn;exact if_pos (.inr λz=>Pe c2 (congrArg V.int z))
   rw [z] at q;exact q
  ·have z:drawn e hour=e.1:=by
    unfold drawn;rw [if_neg ?_]
    rintro(z | z)
    ·exact absurd (decide_eq_true z) (by rw [c];decide)
    ·apply z
     have:V.int ((hour-e.2.1) % e.2.2)=V.int 0:=by simpa using c2
     injection this
   rw [z] at q;exact q
 ·exact h.elim
theorem sc_draws_of:Ay ["plant","story","engines"] ["plant","story"] (Aw s_draws_of):=AB
theorem SM (F:Df K mg "draws_of" s_draws_of ["plant","story"]) (T:Tx mg) (D_drawn_by:Fn P w K mg base 1 "drawn_by" ["engine","hour"] GI) (D_need_story:Fn P w K mg base 8 "need_story" ["plant","story"] Fb):Fn P w K mg base 9 "draws_of" ["plant","story"] GJ:=by
 refine F.fn sc_draws_of (λvs H Q E h=>?_) (λf cdv A outer s H vs Q E hr h=>?_)
 ·unfold GJ at h;split at h;rfl;exact h.elim
 refine⟨_,(Ak (BM (Aj D_need_story (hr.mono (by decide)) rfl (Aq (cx 0 (by rfl)) (cx 1 (by rfl)) (by rfl)) (by decide) (by rfl) (by rfl)) (by rfl)) (Ak (AH (i:=2) sc_draws_of.nd rfl (AD (by rfl)) (AF (AW K (by rfl)) (cx 0 (by rfl)) Af (λ_ _=>rfl)) (by rfl) (AE (by rfl))) (Ao (Ax (BB (Cw K (by rfl)) rfl T.b_tuple Ce (Al (Bx ["hour","units","engines"] [none,none,some 2] rfl (FV P w K rfl T.b_enumerate (Al (AF (AW K (by rfl)) (cx 1 (by rfl)) Af (λ_ _=>rfl)) (by rfl)) (by rfl) (by rfl) (by rfl) (by rfl)) (AS.of rfl) (λ_ _ _ _=>(AC K (n:=2) (Ah (Ag 0 (AN (by rfl)) (by rfl)) (Ah (Ag 1 (AN (by rfl)) (by rfl)) AA (by rfl)) (by rfl)) (by rfl) (by rfl) (by rfl) (by rfl))) (λ_ _ _ _=>Bq) (λ_ _ _ _=>(As AO (cx 1 (by rfl)) (AI (FW rfl) rfl T.b_sum boot_sum (Al (Bx ["engine","hour"] [none,some 0] rfl (BW K (cx 2 (by rfl)) (by rfl)) (AS.of rfl) (λ_ _ _ _=>(Ag 0 (AN (by rfl)) (by rfl))) (λ_ _ _ _=>Bq) (λ_ _ _ _=>(Aj D_drawn_by (hr.mono (by decide)) rfl (Aq (cx 0 (by rfl)) (cx 1 (by rfl)) (by rfl)) (by decide) (by rfl) (by rfl))) (by intro _;rfl)) (by rfl)) (by decide) (by decide) (by rfl) (by rfl)))) (by intro _;rfl)) (by rfl)) (by decide) (by decide) (by rfl) (by rfl)))))),?_⟩
 unfold GJ at h
 split at h
 ·rename_i v u
  obtain⟨p,P,S,ok,so,r,ru,q⟩:=h
  refine⟨p,P,S,ok,so,r,ru,λH1 s1=>?_⟩
  obtain⟨A,B,E,xf,rfl,hA,hB,hE,rf⟩:=Aa.story (Aa.ev (Ev.same s1) _ _ ru)
  obtain⟨PA,PB,PE,PM,xb,xe,rfl,pA,pB,rb,pE,re,pM⟩:=Aa.plant (Aa.ev (Ev.same s1) _ _ r)
  have x8:=so.x8
  have e4:=ok.e4
  have le:=re.len
  rw [List.length_map] at le
  refine⟨PA,_,1,.ref PE,rfl,rfl,Ae.of pA,rfl,A,_,0,.ref B,rfl,rfl,Ae.of hA,rfl,B,rfl,⟨_,Ae.of hB⟩,walk_enum (xs:=S.ex.map V.int) (λi ys H'=>Ab H1 H'/\ys=((draws P S).take i).map V.int) (by rw [List.length_map];omega) ⟨Ab.refl _,rfl⟩ (λi ys H' h=>by rw [h.2,List.length_map,List.length_take];omega) (λi ys H' h=>Ae.of (h.1 _ _ hB)) (λi x ys H' T hx h hT=>?_) λys H' h=>?_⟩
  ·rw [List.getElem?_map] at hx
   cases z:S.ex[i]? with
   | none=>rw [z] at hx;cases hx
   | some n=>
    rw [z] at hx
    cases hx
    have s2:Ab H1 (upd H' T (.tup [.int i,.int n])):=h.1.trans (Ab.new hT)
    refine⟨T,_,rfl,Ae.of Ai,rfl,_,_,rfl,_,_,rfl,rfl,⟨rfl,trivial⟩,λ_=>?_,λz=>by cases z⟩
    refine⟨PE,rfl,⟨xe,Ae.of (s2 _ _ pE)⟩,B4 (xs:=xe) (λj zs H2=>Ab H1 H2/\zs=((P.es.take j).map λe=>drawn e i).map V.int) (by omega) ⟨s2,rfl⟩ (λj zs H2 h=>by rw [h.2,List.length_map,List.length_map,List.length_take];omega) (λj zs H2 _ h=>Ae.of (h.1 _ _ pE)) (λj x zs H2 hx h2=>?_) λzs H2 h2=>?_⟩
    ·obtain⟨f,hf,rd⟩:=Ad.mapGot re hx
     refine⟨⟨rfl,trivial⟩,λ_=>⟨p,f,Aa.ev (Ev.same h2.1) _ _ rd,(ok.e f (List.mem_of_getElem? hf)).2.2.2.2.1,h2.1,?_⟩,λz=>by cases z⟩
     rw [Bk hf,List.map_append,List.map_append,h2.2];rfl
    ·intro m hm
     refine⟨m,P.es.map λe=>drawn e i,rfl,?_,h2.1.trans (Ab.new hm),?_⟩
     ·rw [Ai,h2.2,List.take_of_length_le (by omega)]
     ·rw [Bk (Ig z),List.map_append,h.2];rfl
  ·intro m hm
   refine⟨m,_,rfl,.inl ⟨An.of Ai,λt ht=>?_⟩⟩
   refine q _ _ (s1.trans (h.1.trans ((Ab.new hm).trans (Ab.new ht)))) (Aa.row ?_)
   rw [Ai,h.2,List.take_of_length_le (by rw [BH,List.length_map];omega)]
 ·exact h.elim
end
end MF
end
section
namespace MF
open PySem PySem.Spec PyProof.Rows L2
theorem Me:∀ {bs:List PyData},(∀d∈bs,GoodB d)->∃l:List (Int×Int),bs=l.map bD/\∀q∈l,1<=q.1/\q.1<=9/\1<=q.2/\q.2<=9
 | [],_=>⟨[],rfl,λ_ h=>nomatch h⟩
 | d::ds,h=>by
  obtain⟨l,e,g⟩:=Me λx hx=>h x (List.mem_cons_of_mem _ hx)
  obtain⟨m,c,rfl,a1,a2,a3,a4⟩:=h d List.mem_cons_self
  refine⟨(m,c)::l,by rw [e];rfl,λq hq=>?_⟩
  rcases List.mem_cons.mp hq with rfl | hq
  ·exact⟨a1,a2,a3,a4⟩
  ·exact g q hq
theorem Mf:∀ {es:List PyData},(∀d∈es,GoodE d)->∃l:List (Int×Int×Int),es=l.map eD/\∀q∈l,1<=q.1/\q.1<=9/\0<=q.2.1/\q.2.1<=7/\1<=q.2.2/\q.2.2<=8
 | [],_=>⟨[],rfl,λ_ h=>nomatch h⟩
 | d::ds,h=>by
  obtain⟨l,e,g⟩:=Mf λx hx=>h x (List.mem_cons_of_mem _ hx)
  obtain⟨m,c,k,rfl,a1,a2,a3,a4,a5,a6⟩:=h d List.mem_cons_self
  refine⟨(m,c,k)::l,by rw [e];rfl,λq hq=>?_⟩
  rcases List.mem_cons.mp hq with rfl | hq
  ·exact⟨a1,a2,a3,a4,a5,a6⟩
  ·exact g q hq
theorem GoodP.pl {bs es:List PyData}{lo hi st:Int} (g:GoodP bs es lo hi st):∃P:PL,P.ok/\Md bs es lo hi st=P.d:=by
 obtain⟨lb,rfl,hb⟩:=Me g.b
 obtain⟨le,rfl,he⟩:=Mf g.e
 have b1:=g.b1
 have b4:=g.b4
 have e4:=g.e4
 rw [List.length_map] at b1 b4 e4
 exact⟨⟨lb,le,lo,hi,st⟩,⟨hb,b1,b4,he,e4,g.lo0,g.ls,g.sh,g.h4⟩,rfl⟩
theorem Mg (r:List Int):B8 (Bd r)=true:=by
 unfold B8
 exact Gx λd hd=>by
  obtain⟨i,_,rfl⟩:=List.mem_map.mp hd
  rfl
theorem SN (k:Bool):0<(1:Int)+(if k=true then 1 else 0)/\(1:Int)+(if k=true then 1 else 0)<1073741824:=by cases k<;>decide
def GoodF (n h:Nat) (d:PyData):Prop:=∃x:FT,d=x.d/\x.ok n h
theorem GoodF.nm {n h:Nat}{d:PyData} (g:GoodF n h d):B8 d=true:=by obtain⟨x,rfl,_⟩:=g;rfl
theorem Mh {n h:Nat}:∀ {es:List PyData},(∀d∈es,GoodF n h d)->∃l:List FT,es=l.map FT.d/\∀q∈l,q.ok n h
 | [],_=>⟨[],rfl,λ_ h=>nomatch h⟩
 | d::ds,hh=>by
  obtain⟨l,e,g⟩:=Mh λx hx=>hh x (List.mem_cons_of_mem _ hx)
  obtain⟨x,rfl,a1⟩:=hh d List.mem_cons_self
  refine⟨x::l,by rw [e];rfl,λq hq=>?_⟩
  rcases List.mem_cons.mp hq with rfl | hq
  ·exact a1
  ·exact g q hq
def GK:Sp:=λvs H Q _=>match vs with | [.ref p,v,.int m]=>A9 p H/\1<=m/\m<=8/\∃P,PL.ok P/\Aa p H P.d v/\∀u H' S,SY.ok S P.bs.length->Aa p H' S.d u->Ev p H H'->A9 p H'->Q u H' | _=>False
def IQ:Sp:=λvs H Q _=>match vs with | [v,u]=>∃p P S,PL.ok P/\SY.ok S P.bs.length/\Aa p H P.d v/\Aa p H S.d u/\ret H Q p (Kn P S) | _=>False
def IR:Sp:=λvs H Q _=>match vs with | [v,u]=>∃p P S,PL.ok P/\SY.ok S P.bs.length/\Aa p H P.d v/\Aa p H S.d u/\ret H Q p (Ic P S) | _=>False
section
variable {P : Program} {w : World} {K : PySem.W.Frag} {mg : Str -> Option Value} {base : Heap}
theorem sc__law_story:Ay ["_law_pen_here","_law_plant_here","_law_most","_law_hours","_law_total","_law_wide","_law_extra","_law_faults","_law_turn","_law_first","_law_last"] ["_law_pen_here","_law_plant_here","_law_most"] (Aw s__law_story):=AB
theorem SO (F:Df K mg "_law_story" s__law_story ["_law_pen_here","_law_plant_here","_law_most"]) (T:Tx mg) (D__law_draw:Fn P w K mg base 1 "_law_draw" ["_law_pen_here","_law_many"] Fa):Fn P w K mg base 2 "_law_story" ["_law_pen_here","_law_plant_here","_law_most"] GK:=by
 refine F.fn sc__law_story (λvs H Q E h=>?_) (λf cdv A outer s H vs Q E hr h=>?_)
 ·unfold GK at h;split at h;rfl;exact h.elim
 refine⟨_,(Ak (Fo (i:=3) (j:=4) rfl sc__law_story.nd rfl rfl (by decide) rfl rfl (Aq (As AO Af (Aj D__law_draw (hr.mono (by decide)) rfl (Aq (cx 0 (by rfl)) (cx 2 (by rfl)) (by rfl)) (by decide) (by rfl) (by rfl))) (AI (FW rfl) rfl T.b_sum boot_sum (Al (Bx ["_law_make","_law_coal_here"] [none,none] rfl (BW K (AF (AW K (by rfl)) (cx 1 (by rfl)) Af (λ_ _=>rfl)) (by rfl)) (AS.of rfl) (λ_ _ _ _=>(AC K (n:=2) (Ah (Ag 0 (AN (by rfl)) (by rfl)) (Ah (Ag 1 (AN (by rfl)) (by rfl)) AA (by rfl)) (by rfl)) (by rfl) (by rfl) (by rfl) (by rfl))) (λ_ _ _ _=>Bq) (λ_ _ _ _=>(cx 0 (by rfl))) (by intro _;rfl)) (by rfl)) (by decide) (by decide) (by rfl) (by rfl)) (by rfl)) (by rfl) (by rfl)) (Ak (AH (i:=5) sc__law_story.nd rfl (AD (by rfl)) (AF (Bu K (by rfl)) (BF (BI Af (As AO Af (As FN (cx 4 (by rfl)) Af)) (As AO Af (cx 4 (by rfl))) Af (by rfl))) (Aj D__law_draw (hr.mono (by decide)) rfl (Aq (cx 0 (by rfl)) Af (by rfl)) (by decide) (by rfl) (by rfl)) (λ_ _=>rfl)) (by rfl) (AE (by rfl))) (Ak (AH (i:=6) sc__law_story.nd rfl (AD (by rfl)) (BB (Cw K (by rfl)) rfl T.b_tuple Ce (Al (Bx ["_law_hour","_law_pen_here","_law_wide"] [none,some 0,some 5] rfl (Cq rfl T.b_range (Al (cx 3 (by rfl)) (by rfl)) (by rfl)) (AS.of rfl) (λ_ _ _ _=>(Ag 0 (AN (by rfl)) (by rfl))) (λ_ _ _ _=>Bq) (λ_ _ _ _=>(Aj D__law_draw (hr.mono (by decide)) rfl (Aq (cx 1 (by rfl)) (AI (Fv rfl) rfl T.b_min boot_min (Aq Af (cx 2 (by rfl)) (by rfl)) (by decide) (by decide) (by rfl) (by rfl)) (by rfl)) (by decide) (by rfl) (by rfl))) (by intro _;rfl)) (by rfl)) (by decide) (by decide) (by rfl) (by rfl)) (by rfl) (AE (by rfl))) (Ak (AH (i:=7) sc__law_story.nd rfl (AD (by rfl)) (BF Cu) (by rfl) (AE (by rfl))) (Ak (Bp PassesOwn.never rfl (Cq rfl T.b_range (Al (AF (Bu K (by rfl)) (BF (BI Af Af Af (Aj D__law_draw (hr.mono (by decide)) rfl (Aq (cx 0 (by rfl)) Af (by rfl)) (by decide) (by rfl) (by rfl)) (by rfl))) (Aj D__law_draw (hr.mono (by decide)) rfl (Aq (cx 0 (by rfl)) Af (by rfl)) (by decide) (by rfl) (by rfl)) (λ_ _=>rfl)) (by rfl)) (by rfl)) (Ag 8 sc__law_story.nd (by rfl)) (Ak (AH (i:=9) sc__law_story.nd rfl (AD (by rfl)) (Aj D__law_draw (hr.mono (by decide)) rfl (Aq (cx 0 (by rfl)) (cx 3 (by rfl)) (by rfl)) (by decide) (by rfl) (by rfl)) (by rfl) (AE (by rfl))) (Ak (AH (i:=10) sc__law_story.nd rfl (AD (by rfl)) (As AO (cx 9 (by rfl)) (Aj D__law_draw (hr.mono (by decide)) rfl (Aq (cx 0 (by rfl)) (As Bh (cx 3 (by rfl)) (cx 9 (by rfl))) (by rfl)) (by decide) (by rfl) (by rfl))) (by rfl) (AE (by rfl))) (Ao (BM (CM PySem.F.plainAttrs_list PySem.F.slot_list_append PySem.F.type_list_append CN (cx 7 (by rfl)) (Al (Bc (BI (Aj D__law_draw (hr.mono (by decide)) rfl (Aq (cx 0 (by rfl)) (AI (BG K (by rfl)) rfl T.b_len PySem.boot_len (Al (AF (AW K (by rfl)) (cx 1 (by rfl)) Af (λ_ _=>rfl)) (by rfl)) (by decide) (by decide) (by rfl) (by rfl)) (by rfl)) (by decide) (by rfl) (by rfl)) (AF (Bu K (by rfl)) (BF (Aq Dk Dk (by rfl))) (Aj D__law_draw (hr.mono (by decide)) rfl (Aq (cx 0 (by rfl)) Af (by rfl)) (by decide) (by rfl) (by rfl)) (λ_ _=>rfl)) (cx 9 (by rfl)) (cx 10 (by rfl)) (by rfl))) (by rfl)) (by rfl) (by rfl) (by rfl) (by rfl) (by rfl)) (by rfl))))) (by intro _;rfl)) (Ao (Ax (Bc (Aq (cx 6 (by rfl)) (BB (Cw K (by rfl)) rfl T.b_tuple Ce (Al (cx 7 (by rfl)) (by rfl)) (by decide) (by decide) (by rfl) (by rfl)) (by rfl)))))))))),?_⟩
 unfold GK at h
 split at h
 ·rename_i p v m
  obtain⟨pn,m1,m8,P,ok,r,q⟩:=h
  have b1:=ok.b1
  have b4:=ok.b4
  refine⟨pn,by omega,by omega,λg1 H1 a1 c1 e1 pn1=>?_⟩
  obtain⟨PA,PB,PE,PM,xb,xe,rfl,pA,pB,rb,pE,re,pM⟩:=Aa.plant (Aa.ev e1 _ _ r)
  have lb:=rb.len
  rw [List.length_map] at lb
  refine⟨PA,_,0,.ref PB,rfl,rfl,Ae.of pA,rfl,PB,rfl,⟨xb,Ae.of pB⟩,B4 (xs:=xb) (λi ys H'=>Ab H1 H'/\ys=((P.bs.map (·.1)).take i).map V.int) (by omega) ⟨Ab.refl _,rfl⟩ (λi ys H' h=>by rw [h.2,List.length_map,List.length_take];omega) (λi ys H' _ h=>Ae.of (h.1 _ _ pB)) (λi x ys H' hx h=>?_) λys H2 h=>?_⟩
  ·obtain⟨f,hf,rd⟩:=Ad.mapGot rb hx
   obtain⟨l,zs,rfl,hl',rz⟩:=Aa.shape (Aa.ev (Ev.same h.1) _ _ rd)
   obtain⟨y1,y2,rfl,r1,r2⟩:=Ad.two rz
   unfold Aa at r1 r2
   subst r1 r2
   refine⟨l,_,rfl,Ae.of hl',rfl,_,_,rfl,_,_,rfl,rfl,trivial,λ_=>⟨h.1,?_⟩,λz=>by cases z⟩
   have hf':(P.bs.map (·.1))[i]? =some f.1:=by rw [List.getElem?_map,hf];rfl
   rw [Bk hf',List.map_append,h.2];rfl
  intro lm hlm
  have eT:0<=(P.bs.map (·.1)).sum/\(P.bs.map (·.1)).sum<=9 *(P.bs.map (·.1)).length:=Kq λi hi=>by
   obtain⟨qq,hqq,rfl⟩:=List.mem_map.mp hi
   have:=ok.b qq hqq
   omega
  rw [List.length_map] at eT
  have n1:=Ab.new (o:= .lst ys) hlm
  refine⟨lm,P.bs.map (·.1),rfl,?_,_,_,rfl,⟨by decide,by decide⟩,λl1 hl1=>?_⟩
  ·rw [Ai,h.2,List.take_of_length_le (by rw [List.length_map];omega)]
  have e2:Ev p H (upd H2 lm (.lst ys)):=e1.trans (Ev.same (h.1.trans n1))
  have pn2:A9 p (upd H2 lm (.lst ys)):=pn1.same (h.1.trans n1)
  generalize upd H2 lm (.lst ys)=H3 at hl1 e2 pn2 ⊢
  generalize(P.bs.map (·.1)).sum=T at eT
  refine⟨pn2.new hl1,by decide,by decide,λg2 H4 a4 c4 e4 pn4=>?_⟩
  obtain⟨wd,hwd,hat⟩:=DG (ns:=[1,1+T / 2,1+T,21]) a4 (by simpa using c4)
  have hwd':wd=1\/wd=1+T / 2\/wd=1+T\/wd=21:=by simpa using hwd
  have w1:1<=wd:=by omega
  refine⟨l1,_,g2,.int wd,rfl,rfl,An.of (e4.lst Ai (pn2.ne hl1)),hat,?_⟩
  have eA:Ev p H H4:=e2.trans ((Ev.new hl1).trans e4)
  refine⟨_,rfl,by omega,by omega,J0 (n:=(1+g1).toNat) (λi ys H5=>Ev p H4 H5/\A9 p H5/\∃ns:List Int,ys=ns.map V.int/\ns.length=i/\∀u∈ns,0<=u/\u<=20) (by omega) ⟨Ev.refl,pn4,[],rfl,rfl,(λ_ h=>nomatch h)⟩ (λi ys H5 h=>?_) (λi ys H5 hi h=>?_) λys H5 h=>?_⟩
  ·obtain⟨_,_,ns,rfl,hn,_⟩:=h
   rw [List.length_map];omega
  ·obtain⟨e5,pn5,ns,rfl,hn,hu⟩:=h
   refine⟨⟨rfl,rfl,trivial⟩,λ_=>⟨21,wd,rfl,pn5,by split<;>omega,by split<;>omega,λg6 H6 a6 c6 e6 pn6=>⟨e5.trans e6,pn6,ns++[g6],by rw [List.map_append];rfl,by rw [List.length_append,hn];rfl,λu hu'=>?_⟩⟩,λz=>by cases z⟩
   rcases List.mem_append.mp hu' with h | h
   ·exact hu u h
   ·rw [List.mem_singleton.mp h]
    have:(if wd<21 then wd else 21)<=21:=by split<;>omega
    omega
  obtain⟨e5,pn5,ns,rfl,hn,hu⟩:=h
  intro l2 hl2
  refine⟨l2,_,rfl,.inl ⟨An.of Ai,λt1 ht1 b hb=>?_⟩⟩
  have n2:=Ab.new (o:= .lst (ns.map V.int)) hl2
  have n3:=Ab.new (o:= .tup (ns.map V.int)) ht1
  have kt:=Ai (H:=upd H5 l2 (.lst (ns.map V.int))) (a:=t1) (o:= .tup (ns.map V.int))
  have e6:Ev p H (upd (upd H5 l2 (.lst (ns.map V.int))) t1 (.tup (ns.map V.int))):=(eA.trans e5).trans (Ev.same (n2.trans n3))
  have pn6:=pn5.same (n2.trans n3)
  generalize upd (upd H5 l2 (.lst (ns.map V.int))) t1 (.tup (ns.map V.int))=H6 at hb kt e6 pn6 n3 ⊢
  have nb:b≠p:=pn6.ne hb
  have hbH:H b=none:=by
   cases z:H b with
   | none=>rfl
   | some o=>exact((e6 b o z).elim (fun⟨x,_⟩=>absurd x nb) λx=>by rw [x] at hb;cases hb)
  refine⟨pn6.new hb,by decide,by decide,λg7 H7 a7 c7 e7 pn7 l3 hl3=>⟨pn7.new hl3,by decide,by decide,λg8 H8 a8 c8 e8 pn8=>?_⟩⟩
  obtain⟨tn,htn,hat3⟩:=DG (ns:=[0,0,1,g7]) a8 (by simpa using c8)
  have htn':tn=0\/tn=0\/tn=1\/tn=g7:=by simpa using htn
  have e68:Ev p (upd H6 b (.lst [])) H8:=e7.trans ((Ev.new hl3).trans e8)
  refine⟨l3,_,g8,.int tn,rfl,rfl,An.of (e8.lst Ai (pn7.ne hl3)),hat3,tn,rfl,by omega,by omega,Dm (n:=tn.toNat) (λi σ H9=>∃t f l,σ=[some (.ref p),some (.ref PA),some (.int m),some (.int (1+g1)),some (.int T),some (.int wd),some (.ref t1),some (.ref b),t,f,l]/\Ev p H6 (upd H9 b (.lst []))/\Filled (GoodF P.bs.length (1+g1).toNat) p b H H9 i)
   ⟨_,_,_,rfl,?_,(e6.trans (Ev.new hb)).trans e68,pn8,[],[],e68.lst Ai nb,.nil,(λ_ h=>nomatch h),rfl⟩ (λi σ H9 hi hP=>?_) fun σ H9 hP=>?_⟩
  ·exact((Ev.new hb).trans e68).own hb
  ·obtain⟨t,f,l,rfl,ev6,ev,pn4',xs,ds,hx,rs,gd,hl⟩:=hP
   refine⟨pn4',by omega,by omega,λf1 K5 a5 c5 e5' pn5'=>⟨pn5',by omega,by omega,λf2 K6 a6 c6 e6' pn6'=>?_⟩⟩
   have e46:Ev p H9 K6:=e5'.trans e6'
   obtain⟨PA',PB',PE',PM',xb',xe',ePA,pA',pB',rb',pE',re',pM'⟩:=Aa.plant (Aa.ev (ev.trans e46) _ _ r)
   cases ePA
   have lb':=rb'.len
   rw [List.length_map] at lb'
   refine⟨.inl ⟨rfl,_,An.of (e46.lst hx nb)⟩,PA,_,0,.ref PB',rfl,rfl,Ae.of pA',rfl,PB',xb',rfl,.inr (Ae.of pB'),pn6',by omega,by omega,λf3 K7 a7' c7' e7' pn7' l2' hl2'=>⟨pn7'.new hl2',by decide,by decide,λg4 K8 a8' c8' e8' pn8'=>?_⟩⟩
   have hw:∃bb:Bool,BT [V.str "out",.str "scaled"] g4=some (wV bb):=by
    have:g4=0\/g4=1:=by omega
    rcases this with rfl | rfl
    ·exact⟨true,rfl⟩
    ·exact⟨false,rfl⟩
   obtain⟨bb,hw⟩:=hw
   refine⟨l2',_,g4,wV bb,rfl,rfl,An.of (e8'.lst Ai (pn7'.ne hl2')),hw,λt1' ht1'=>?_⟩
   have e48:Ev p H9 K8:=e46.trans (e7'.trans ((Ev.new hl2').trans e8'))
   have hb8:=e48.lst hx nb
   refine⟨b,xs,.ref t1',rfl,rfl,by rw [Ap (A2 hb8 ht1')];exact hb8,DH (by rw [<-rs.len,hl];omega),_,_,_,rfl,?_,?_⟩
   ·intro c o hc
    by_cases z:c=b
    ·subst z;rw [hb] at hc;cases hc
    ·rcases ev6 c o hc with w' | w'
     ·exact .inl w'
     ·rw [Ap z] at w'
      rcases(e48.trans (Ev.new (o:= .tup [.int f3,wV bb,.int f1,.int (f1+f2)]) ht1')) c o w' with w'' | w''
      ·exact .inl w''
      ·right
       rw [Ap z,Ap z]
       exact w''
   ·exact Filled.step (λd h=>h.nm) hx rs gd hl e48 nb hbH (ev.trans e48) pn8' ht1' (Aa.tup Ai (.cons Aa.int (.cons Aa.str (.cons Aa.int (.cons Aa.int .nil))))) ⟨⟨f3,bb,f1,f1+f2⟩,rfl,⟨a7',by show f3<_;omega,a5,by show f1<=f1+f2;omega,by show f1+f2<_;omega⟩⟩
  ·obtain⟨t,f,l,rfl,ev6,fb⟩:=hP
   have kt9:H9 t1=some (.tup (ns.map V.int)):=by
    have z:=ev6.tup kt
    rw [Ap (A2 kt hb)] at z
    exact z
   obtain⟨xs,fs,hb5,rb5,gf,lf⟩:=fb.done nb Ev.refl
   refine⟨b,xs,rfl,.inl ⟨An.of hb5,λt2 ht2 t3 ht3=>?_⟩⟩
   obtain⟨lF,rfl,gl⟩:=Mh gf
   rw [List.length_map] at lf
   have s5:=(Ab.new (o:= .tup xs) ht2).trans (Ab.new (o:= .tup [.ref t1,.ref t2]) ht3)
   refine q _ _ ⟨ns,lF⟩ ⟨by show 1<=ns.length;omega,by show ns.length<=8;omega,hu,by show lF.length<=4;omega,λx hx=>?_⟩ ?_ (fb.ev.trans (Ev.same s5)) (fb.pen.same s5)
   ·show x.ok _ ns.length
    rw [hn];exact gl x hx
   ·exact Aa.tup Ai (.cons (Aa.row (s5 _ _ kt9)) (.cons (Aa.tup ((Ab.new ht3) _ _ Ai) (Ad.ev (Ev.same s5) _ _ rb5)) .nil))
 ·exact h.elim
theorem sc__law_caps:Ay ["_law_plant_here","_law_story_here","_law_rows","_law_hour","_law_row","_law_boiler","_law_make","_law_coal_here","_law_words"] ["_law_plant_here","_law_story_here"] (Aw s__law_caps):=AB
abbrev Fc (P:Program) (w:World) (K:PySem.W.Frag) (mg:Str->Option Value) (base:Heap):Prop:=Fn P w K mg base 1 "_law_caps" ["_law_plant_here","_law_story_here"] IQ
theorem SQ (F:Df K mg "_law_caps" s__law_caps ["_law_plant_here","_law_story_here"]) (T:Tx mg)  :Fc P w K mg base:=by
 refine F.fn sc__law_caps (λvs H Q E h=>?_) (λf cdv A outer s H vs Q E hr h=>?_)
 ·unfold IQ at h;split at h;rfl;exact h.elim
 refine⟨_,(Ak (AH (i:=2) sc__law_caps.nd rfl (AD (by rfl)) (BF Cu) (by rfl) (AE (by rfl))) (Ak (Bp PassesOwn.never rfl (Cq rfl T.b_range (Al (AI (BG K (by rfl)) rfl T.b_len PySem.boot_len (Al (AF (AW K (by rfl)) (cx 1 (by rfl)) Af (λ_ _=>rfl)) (by rfl)) (by decide) (by decide) (by rfl) (by rfl)) (by rfl)) (by rfl)) (Ag 3 sc__law_caps.nd (by rfl)) (Ak (AH (i:=4) sc__law_caps.nd rfl (AD (by rfl)) (BF Cu) (by rfl) (AE (by rfl))) (Ak (Bp PassesOwn.never rfl (FV P w K rfl T.b_enumerate (Al (AF (AW K (by rfl)) (cx 0 (by rfl)) Af (λ_ _=>rfl)) (by rfl)) (by rfl) (by rfl) (by rfl) (by rfl)) (AC K (n:=2) (Ah (Ag 5 sc__law_caps.nd (by rfl)) (Ah (AC K (n:=2) (Ah (Ag 6 sc__law_caps.nd (by rfl)) (Ah (Ag 7 sc__law_caps.nd (by rfl)) AA (by rfl)) (by rfl)) (by rfl) (by rfl) (by rfl) (by rfl)) AA (by rfl)) (by rfl)) (by rfl) (by rfl) (by rfl) (by rfl)) (Ak (HS (i:=8) ["_law_one","_law_word","_law_first","_law_last","_law_boiler","_law_hour"] [none,none,none,none,some 5,some 3] sc__law_caps.nd rfl (AD (by rfl)) rfl (BW K (AF (AW K (by rfl)) (cx 1 (by rfl)) Af (λ_ _=>rfl)) (by rfl)) (AS.of rfl) (λ_ _ _ _=>(AC K (n:=4) (Ah (Ag 0 (AN (by rfl)) (by rfl)) (Ah (Ag 1 (AN (by rfl)) (by rfl)) (Ah (Ag 2 (AN (by rfl)) (by rfl)) (Ah (Ag 3 (AN (by rfl)) (by rfl)) AA (by rfl)) (by rfl)) (by rfl)) (by rfl)) (by rfl) (by rfl) (by rfl) (by rfl))) (λ_ _ _ _=>(FB (PW.pt (FO (A4 DM (cx 0 (by rfl)) (cx 4 (by rfl)) (A3 _)) (FO (A4 Dq (cx 2 (by rfl)) (cx 5 (by rfl)) (A3 _)) (Hq (A4 Dq (cx 5 (by rfl)) (cx 3 (by rfl)) (A3 _)))))))) (λ_ _ _ _=>(cx 1 (by rfl))) (by rfl) (AE (by rfl)) (by intro _;rfl)) (Ao (BM (CM PySem.F.plainAttrs_list PySem.F.slot_list_append PySem.F.type_list_append CN (cx 4 (by rfl)) (Al (EO (A4 (Eh K (by rfl)) Dk (cx 8 (by rfl)) (by with_unfolding_all rfl)) Af (As FN (cx 6 (by rfl)) (As AO Af (BB HA rfl T.b_int L2.boot_int (Al (D9 (Eh K (by rfl)) Dk (cx 8 (by rfl)) (by with_unfolding_all rfl)) (by rfl)) (by decide) (by decide) (by rfl) (by rfl))))) (by rfl)) (by rfl) (by rfl) (by rfl) (by rfl) (by rfl)) (by rfl)))) (by intro _;rfl)) (Ao (BM (CM PySem.F.plainAttrs_list PySem.F.slot_list_append PySem.F.type_list_append CN (cx 2 (by rfl)) (Al (BB (Cw K (by rfl)) rfl T.b_tuple Ce (Al (cx 4 (by rfl)) (by rfl)) (by decide) (by decide) (by rfl) (by rfl)) (by rfl)) (by rfl) (by rfl) (by rfl) (by rfl) (by rfl)) (by rfl))))) (by intro _;rfl)) (Ao (Ax (BB (Cw K (by rfl)) rfl T.b_tuple Ce (Al (cx 2 (by rfl)) (by rfl)) (by decide) (by decide) (by rfl) (by rfl)))))),?_⟩
 unfold IQ at h
 split at h
 ·rename_i v u
  obtain⟨p,P,S,ok,so,r,ru,q⟩:=h
  obtain⟨A,B,E,xf,rfl,hA,hB,hE,rf⟩:=Aa.story ru
  obtain⟨PA,PB,PE,PM,xb,xe,rfl,pA,pB,rb,pE,re,pM⟩:=Aa.plant r
  have x8:=so.x8
  have f4:=so.f4
  have b4:=ok.b4
  have lb:=rb.len
  rw [List.length_map] at lb
  have lf:=rf.len
  rw [List.length_map] at lf
  intro R hR
  have s0:Ab H (upd H R (.lst [])):=Ab.new hR
  refine⟨A,_,0,.ref B,rfl,rfl,Ae.of (s0 _ _ hA),rfl,B,_,rfl,.inr (Ae.of (s0 _ _ hB)),_,rfl,by omega,by rw [List.length_map];omega,Dm (n:=(S.ex.map V.int).length) (λi σ H1=>(∃x3 x4 x5 x6 x7 x8,σ=[some (.ref PA),some (.ref A),some (.ref R),x3,x4,x5,x6,x7,x8])/\Ab H H1/\∃xs,H1 R=some (.lst xs)/\Ad p H1 (((caps P S).take i).map Bd) xs)
   ⟨⟨_,_,_,_,_,_,rfl⟩,s0,[],Ai,.nil⟩ (λi σ H1 hi hP=>?_) fun σ H1 hP=>?_⟩
  ·obtain⟨⟨x3,x4,x5,x6,x7,x8',rfl⟩,s1,xs,hxs,rxs⟩:=hP
   rw [List.length_map] at hi
   have lx:=rxs.len
   rw [List.length_map,List.length_take] at lx
   intro b hb
   have sb:Ab H1 (upd H1 b (.lst [])):=Ab.new hb
   refine⟨PA,_,0,.ref PB,rfl,rfl,Ae.of (sb _ _ (s1 _ _ pA)),rfl,PB,rfl,⟨xb,Ae.of (sb _ _ (s1 _ _ pB))⟩,for_enum (xs:=xb) (λj σ H2=>(∃y5 y6 y7 y8,σ=[some (.ref PA),some (.ref A),some (.ref R),some (.int (0+i)),some (.ref b),y5,y6,y7,y8])/\Ab H1 H2/\H2 b=some (.lst (((B5 P.bs S.fs i).take j).map V.int)))
    ⟨⟨_,_,_,_,rfl⟩,sb,Ai⟩ (λj σ H2 h=>Ae.of (h.2.1 _ _ (s1 _ _ pB))) (λj x σ H2 T hx h hT=>?_) fun σ H2 h=>?_⟩
   ·obtain⟨⟨y5,y6,y7,y8,rfl⟩,s2,hb2⟩:=h
    obtain⟨f,hf,rd⟩:=Ad.mapGot rb hx
    have hj:j<xb.length:=(List.getElem?_eq_some_iff.mp hx).1
    have s3:Ab H1 (upd H2 T (.tup [.int j,x])):=s2.trans (Ab.new hT)
    have s03:Ab H (upd H2 T (.tup [.int j,x])):=s1.trans s3
    obtain⟨l,zs,rfl,hl',rz⟩:=Aa.shape (Aa.ev (Ev.same s03) _ _ rd)
    obtain⟨z1,z2,rfl,r1,r2⟩:=Ad.two rz
    unfold Aa at r1 r2
    subst r1 r2
    refine⟨T,_,rfl,Ae.of Ai,rfl,_,_,rfl,_,_,rfl,l,_,rfl,Ae.of hl',rfl,_,_,rfl,_,_,rfl,rfl,rfl,?_⟩
    refine⟨A,_,1,.ref E,rfl,rfl,Ae.of (s03 _ _ hA),rfl,E,rfl,⟨xf,Ae.of (s03 _ _ hE)⟩,B4 (xs:=xf) (λk ys H3=>Ab (upd H2 T (.tup [.int j,.ref l])) H3/\ys=(Bj (S.fs.take k) j i).map wV) (by omega) ⟨Ab.refl _,rfl⟩ (λk ys H' h=>?_) (λk ys H' _ h=>Ae.of (h.1 _ _ (s03 _ _ hE))) (λk x ys H' hx h=>?_) λys H3 h=>?_⟩
    ·rw [h.2,List.length_map]
     unfold Bj
     rw [List.length_map]
     exact Nat.le_trans (List.length_filter_le _ _) (by rw [List.length_take];omega)
    ·obtain⟨g,hg,rg⟩:=Ad.mapGot rf hx
     obtain⟨l2,zs2,rfl,hl2,rz2⟩:=Aa.shape (Aa.ev (Ev.same (s03.trans h.1)) _ _ rg)
     obtain⟨w1,w2,w3,w4,rfl,r1,r2,r3,r4⟩:=Ad.four rz2
     unfold Aa at r1 r2 r3 r4
     subst r1 r2 r3 r4
     have nx:=Ko (b:=j) (h:=i) hg
     have no:BP j i g=false->Ab (upd H2 T (.tup [.int j,.ref l])) H'/\ys=(Bj (S.fs.take (k+1)) j i).map wV:=λe=>⟨h.1,by rw [nx,e,if_neg (by decide)];exact h.2⟩
     refine⟨l2,_,rfl,Ae.of hl2,rfl,_,_,rfl,_,_,rfl,_,_,rfl,_,_,rfl,rfl,⟨rfl,rfl,trivial⟩,rfl,⟨λc1=>⟨λc2=>⟨λc3=>?_,λc3=>no ?_⟩,λc2=>⟨λz=>(by cases z),λ_=>no ?_⟩⟩,λc1=>⟨λz=>(by cases z),λ_=>no ?_⟩⟩⟩
     ·have e:BP j i g=true:=by
       rw [Ca] at c1
       rw [Int.zero_add] at c2 c3
       unfold BP;rw [c1,c2,c3];rfl
      refine⟨h.1,?_⟩
      rw [nx,if_pos e,List.map_append,h.2];rfl
     ·rw [Int.zero_add] at c3
      unfold BP;rw [c3,Bool.and_false]
     ·rw [Int.zero_add] at c2
      unfold BP;rw [c2,Bool.and_false,Bool.false_and]
     ·rw [Ca] at c1
      unfold BP;rw [c1,Bool.false_and,Bool.false_and]
    ·intro m hm
     have ew:ys=(Bj S.fs j i).map wV:=by rw [h.2,List.take_of_length_le (by omega)]
     subst ew
     have s4:Ab H2 (upd H3 m (.lst ((Bj S.fs j i).map wV))):=(Ab.new hT).trans (h.1.trans (Ab.new hm))
     have hb4:=s4 _ _ hb2
     have hlen:(((B5 P.bs S.fs i).take j).map V.int).length<sizeLine:=DH (by rw [List.length_map,List.length_take];omega)
     refine⟨.inl ⟨rfl,_,An.of hb4⟩,m,_,rfl,.inl (An.of Ai),rfl,FY,⟨λc=>?_,λc=>?_⟩⟩
     ·rw [if_neg (by decide),FX] at c
      refine⟨b,_,.int 0,rfl,rfl,hb4,hlen,⟨_,_,_,_,rfl⟩,Ab.own (s2.trans s4) hb,?_⟩
      have e:By (Bj S.fs j i) f.1=0:=by unfold By;rw [if_pos c]
      rw [Ai,Bk (Id hf),List.map_append,e];rfl
     ·rw [if_neg (by decide),FX] at c
      refine⟨m,_,rfl,.inl (An.of Ai),rfl,FY,.inr ⟨_,rfl,?_⟩⟩
      have ek:(if (false=true) then !BC (V.str "scaled") ((Bj S.fs j i).map wV) else BC (V.str "scaled") ((Bj S.fs j i).map wV))=(Bj S.fs j i).any (!·):=by rw [if_neg (by decide)];exact Ih
      have e:=Pl (m:=f.1) c
      refine⟨SN _,b,_,.int (By (Bj S.fs j i) f.1),rfl,congrArg (λz=>[V.int z]) ((congrArg (fun(k:Bool)=>f.1 /(1+if k=true then 1 else 0)) ek).trans e),hb4,hlen,⟨_,_,_,_,rfl⟩,Ab.own (s2.trans s4) hb,?_⟩
      rw [Ai,Bk (Id hf),List.map_append];rfl
   ·obtain⟨⟨y5,y6,y7,y8,rfl⟩,s2,hb2⟩:=h
    rw [List.take_of_length_le (by rw [Ie];omega)] at hb2
    refine⟨.inl ⟨rfl,_,An.of (s2 _ _ hxs)⟩,b,_,rfl,.inl ⟨An.of hb2,λt ht=>?_⟩⟩
    have s3:Ab H1 (upd H2 t (.tup ((B5 P.bs S.fs i).map V.int))):=s2.trans (Ab.new ht)
    have hR3:=s3 _ _ hxs
    refine⟨R,xs,.ref t,rfl,rfl,hR3,DH (by omega),⟨_,_,_,_,_,_,rfl⟩,Ab.own (s1.trans s3) hR,_,Ai,?_⟩
    have tv:=TEv.upd (zs:=xs++[.ref t]) hR3
    rw [Bk (ET hi),List.map_append]
    refine Ad.snoc (Ad.tev ((Ev.same (p:=p) s3).tev.trans tv) _ _ (Gx λd hd=>?_) rxs) (Aa.tev tv _ _ (Mg _) (Aa.row (p:=p) Ai))
    obtain⟨rr,_,rfl⟩:=List.mem_map.mp hd
    exact Mg rr
  ·obtain⟨⟨x3,x4,x5,x6,x7,x8',rfl⟩,s1,xs,hxs,rxs⟩:=hP
   refine⟨R,xs,rfl,.inl ⟨An.of hxs,λt ht=>q _ _ (s1.trans (Ab.new ht)) (Aa.tup Ai ?_)⟩⟩
   rw [List.take_of_length_le (by rw [CO,List.length_map];exact Nat.le_refl _)] at rxs
   exact Ad.ev (Ev.new ht) _ _ rxs
 ·exact h.elim
end
end MF
end
section
namespace MF
open PySem PySem.Spec PyProof.Rows L2
variable {p : Addr} {H : Hp} {v : V}
theorem Aa.terms {T:TM} (r:Aa p H T.d v):∃A C B D M xc,v= .ref A/\H A=some (.tup [.ref C,.ref B,.ref D,.ref M])/\H C=some (.tup xc)/\Ad p H (T.cs.map Bd) xc/\H B=some (.tup (T.co.map V.int))/\H D=some (.tup (T.ds.map V.int))/\H M=some (.tup [.int T.lo,.int T.hi,.int T.st]):=by
 unfold TM.d at r
 obtain⟨A,xs,rfl,hA,rs⟩:=Aa.shape r
 obtain⟨x,y,z,w,rfl,rx,ry,rz,rw⟩:=Ad.four rs
 obtain⟨C,xc,rfl,hC,rc⟩:=Aa.shape rx
 obtain⟨B,xb,rfl,hB,rb⟩:=Aa.shape ry
 obtain⟨D,xd,rfl,hD,rd⟩:=Aa.shape rz
 obtain⟨M,xm,rfl,hM,rm⟩:=Aa.shape rw
 obtain⟨m1,m2,m3,rfl,r1,r2,r3⟩:=Ad.three rm
 unfold Aa at r1 r2 r3
 subst r1 r2 r3
 rw [Ad.ints rb] at hB
 rw [Ad.ints rd] at hD
 exact⟨A,C,B,D,M,xc,rfl,hA,hC,rc,hB,hD,hM⟩
theorem Aa.ofRow' {r:List Int} (h:Aa p H (Bd r) v):∃A,v= .ref A/\H A=some (.tup (r.map V.int)):=by
 obtain⟨A,xs,rfl,hA,rs⟩:=Aa.shape h
 rw [Ad.ints rs] at hA
 exact⟨A,rfl,hA⟩
def SR (n:Int) (d:PyData):Bool:=A6 d n n &&(match d with | .tuple es=>es.all P7 | _=>false)
theorem IS {ns:List Int}{i:Nat} (h:i<ns.length):BT (ns.map V.int) (i:Int)=some (.int (ns.getD i 0)):=by
 refine DO ?_
 rw [List.getElem?_map,List.getElem?_eq_getElem h,List.getD_eq_getElem?_getD,List.getElem?_eq_getElem h];rfl
def IT:Sp:=λvs H Q _=>match vs with | [v,u]=>∃p P S,PL.ok P/\SY.ok S P.bs.length/\Aa p H P.d v/\Aa p H S.d u/\ret H Q p (terms P S).d | _=>False
def sp_is_counts:Sp:=λvs H Q _=>match vs with | [x,.int m]=>∃p d,Aa p H d x/\m<=1000/\∀b H',b=SR m d->Ab H H'->Q (.bl b) H' | _=>False
def GL:Sp:=λvs H Q _=>match vs with | [v,.int h,.int x,.int b]=>∃p T n,h=((n:Nat):Int)/\n<T.ds.length/\AL T/\Aa p H T.d v/\∀H',Ab H H'->Q (.int (Bl T n x b)) H' | _=>False
section
variable {P : Program} {w : World} {K : PySem.W.Frag} {mg : Str -> Option Value} {base : Heap}
theorem sc_terms_of:Ay ["plant","story","caps","coals"] ["plant","story"] (Aw s_terms_of):=AB
abbrev Fd (P:Program) (w:World) (K:PySem.W.Frag) (mg:Str->Option Value) (base:Heap):Prop:=Fn P w K mg base 10 "terms_of" ["plant","story"] IT
theorem SS (F:Df K mg "terms_of" s_terms_of ["plant","story"]) (T:Tx mg) (D_caps_of:Fn P w K mg base 9 "caps_of" ["plant","story"] GH) (D_draws_of:Fn P w K mg base 9 "draws_of" ["plant","story"] GJ):Fd P w K mg base:=by
 refine F.fn sc_terms_of (λvs H Q E h=>?_) (λf cdv A outer s H vs Q E hr h=>?_)
 ·unfold IT at h;split at h;rfl;exact h.elim
 refine⟨_,(Ak (AH (i:=2) sc_terms_of.nd rfl (AD (by rfl)) (Aj D_caps_of (hr.mono (by decide)) rfl (Aq (cx 0 (by rfl)) (cx 1 (by rfl)) (by rfl)) (by decide) (by rfl) (by rfl)) (by rfl) (AE (by rfl))) (Ak (AH (i:=3) sc_terms_of.nd rfl (AD (by rfl)) (BB (Cw K (by rfl)) rfl T.b_tuple Ce (Al (Bx ["make","coal"] [none,none] rfl (BW K (AF (AW K (by rfl)) (cx 0 (by rfl)) Af (λ_ _=>rfl)) (by rfl)) (AS.of rfl) (λ_ _ _ _=>(AC K (n:=2) (Ah (Ag 0 (AN (by rfl)) (by rfl)) (Ah (Ag 1 (AN (by rfl)) (by rfl)) AA (by rfl)) (by rfl)) (by rfl) (by rfl) (by rfl) (by rfl))) (λ_ _ _ _=>Bq) (λ_ _ _ _=>(cx 1 (by rfl))) (by intro _;rfl)) (by rfl)) (by decide) (by decide) (by rfl) (by rfl)) (by rfl) (AE (by rfl))) (Ao (Ax (Bc (BI (cx 2 (by rfl)) (cx 3 (by rfl)) (Aj D_draws_of (hr.mono (by decide)) rfl (Aq (cx 0 (by rfl)) (cx 1 (by rfl)) (by rfl)) (by decide) (by rfl) (by rfl)) (AF (AW K (by rfl)) (cx 0 (by rfl)) Af (λ_ _=>rfl)) (by rfl))))))),?_⟩
 unfold IT at h
 split at h
 ·rename_i v u
  obtain⟨p,P,S,ok,so,r,ru,q⟩:=h
  refine⟨p,P,S,ok,so,r,ru,λcv H1 s1 rc=>?_⟩
  obtain⟨PA,PB,PE,PM,xb,xe,rfl,pA,pB,rb,pE,re,pM⟩:=Aa.plant (Aa.ev (Ev.same s1) _ _ r)
  have b4:=ok.b4
  have lb:=rb.len
  rw [List.length_map] at lb
  refine⟨PA,_,0,.ref PB,rfl,rfl,Ae.of pA,rfl,PB,rfl,⟨xb,Ae.of pB⟩,B4 (xs:=xb) (λi ys H'=>Ab H1 H'/\ys=((P.bs.take i).map λq=>V.int q.2)) (by omega) ⟨Ab.refl _,rfl⟩ (λi ys H' h=>by rw [h.2,List.length_map,List.length_take];omega) (λi ys H' _ h=>Ae.of (h.1 _ _ pB)) (λi x ys H' hx h=>?_) λys H' h=>?_⟩
  ·obtain⟨f,hf,rd⟩:=Ad.mapGot rb hx
   obtain⟨l,zs,rfl,hl',rz⟩:=Aa.shape (Aa.ev (Ev.same h.1) _ _ rd)
   obtain⟨y1,y2,rfl,r1,r2⟩:=Ad.two rz
   unfold Aa at r1 r2
   subst r1 r2
   refine⟨l,_,rfl,Ae.of hl',rfl,_,_,rfl,_,_,rfl,rfl,trivial,λ_=>⟨h.1,?_⟩,λz=>by cases z⟩
   rw [Bk hf,List.map_append,h.2];rfl
  ·intro m hm
   refine⟨m,_,rfl,.inl ⟨An.of Ai,λt ht=>?_⟩⟩
   have nt:=Ab.new (o:= .tup ys) ht
   have s2:=h.1.trans ((Ab.new (o:= .lst ys) hm).trans nt)
   refine⟨p,P,S,ok,so,Aa.ev (Ev.same (s1.trans s2)) _ _ r,Aa.ev (Ev.same (s1.trans s2)) _ _ ru,λdv H3 s3 rd=>?_⟩
   have s13:=s2.trans s3
   refine⟨PA,_,2,.ref PM,rfl,rfl,Ae.of (s13 _ _ pA),rfl,λt2 ht2=>?_⟩
   have s4:=Ab.new (o:= .tup [cv,.ref t,dv,.ref PM]) ht2
   have ey:ys=(P.bs.map (·.2)).map V.int:=by rw [h.2,List.take_of_length_le (by omega),List.map_map];rfl
   have ht4:=(s3.trans s4) _ _ (Ai (H:=upd H' m (.lst ys)) (a:=t) (o:= .tup ys))
   rw [ey] at ht4
   refine q _ _ (s1.trans (s13.trans s4)) (Aa.tup Ai (.cons (Aa.ev (Ev.same (s13.trans s4)) _ _ rc) (.cons (Aa.row ht4) (.cons (Aa.ev (Ev.same s4) _ _ rd) (.cons (Aa.tup ((s13.trans s4) _ _ pM) (.cons Aa.int (.cons Aa.int (.cons Aa.int .nil)))) .nil)))))
 ·exact h.elim
theorem sc_floor_at:Ay ["terms","hour","price","behind","caps","coals","draws","low","high","start","spared","kept"] ["terms","hour","price","behind"] (Aw s_floor_at):=AB
theorem ST (F:Df K mg "floor_at" s_floor_at ["terms","hour","price","behind"]) (T:Tx mg)  :Fn P w K mg base 1 "floor_at" ["terms","hour","price","behind"] GL:=by
 refine F.fn sc_floor_at (λvs H Q E h=>?_) (λf cdv A outer s H vs Q E hr h=>?_)
 ·unfold GL at h;split at h;rfl;exact h.elim
 refine⟨_,(Ak (A1 (cx 0 (by rfl)) (AC K (n:=4) (Ah (Ag 4 sc_floor_at.nd (by rfl)) (Ah (Ag 5 sc_floor_at.nd (by rfl)) (Ah (Ag 6 sc_floor_at.nd (by rfl)) (Ah (AC K (n:=3) (Ah (Ag 7 sc_floor_at.nd (by rfl)) (Ah (Ag 8 sc_floor_at.nd (by rfl)) (Ah (Ag 9 sc_floor_at.nd (by rfl)) AA (by rfl)) (by rfl)) (by rfl)) (by rfl) (by rfl) (by rfl) (by rfl)) AA (by rfl)) (by rfl)) (by rfl)) (by rfl)) (by rfl) (by rfl) (by rfl) (by rfl)) (by rfl) (by rfl) (by rfl)) (Ak (AH (i:=10) sc_floor_at.nd rfl (AD (by rfl)) (AI (FW rfl) rfl T.b_sum boot_sum (Al (Bx ["cap","coal","price"] [none,none,some 2] rfl (Ia P w K rfl T.b_zip (Aq (AF (AW K (by rfl)) (cx 4 (by rfl)) (cx 1 (by rfl)) (λ_ _=>rfl)) (cx 5 (by rfl)) (by rfl)) (by rfl) (by rfl) (by rfl) (by rfl) (by rfl)) (AS.of rfl) (λ_ _ _ _=>(AC K (n:=2) (Ah (Ag 0 (AN (by rfl)) (by rfl)) (Ah (Ag 1 (AN (by rfl)) (by rfl)) AA (by rfl)) (by rfl)) (by rfl) (by rfl) (by rfl) (by rfl))) (λ_ _ _ _=>(FB (A4 DU (cx 1 (by rfl)) (cx 2 (by rfl)) (A3 _)))) (λ_ _ _ _=>(As Dp (cx 0 (by rfl)) (As Bh (cx 1 (by rfl)) (cx 2 (by rfl))))) (by intro _;rfl)) (by rfl)) (by decide) (by decide) (by rfl) (by rfl)) (by rfl) (AE (by rfl))) (Ak (AH (i:=11) sc_floor_at.nd rfl (AD (by rfl)) (As Dp (As Bh (cx 2 (by rfl)) (cx 3 (by rfl))) (EO (A4 J8 (cx 2 (by rfl)) (cx 3 (by rfl)) (A3 _)) (cx 7 (by rfl)) (cx 8 (by rfl)))) (by rfl) (AE (by rfl))) (Ao (Ax (As AO (As AO (As Dp (cx 2 (by rfl)) (AF (AW K (by rfl)) (cx 6 (by rfl)) (cx 1 (by rfl)) (λ_ _=>rfl))) (cx 10 (by rfl))) (cx 11 (by rfl)))))))),?_⟩
 unfold GL at h
 split at h
 ·rename_i v hh x b
  obtain⟨p,T,n,rfl,hn,ok,r,q⟩:=h
  obtain⟨A,C,B,D,M,xc,rfl,hA,hC,rc,hB,hD,hM⟩:=Aa.terms r
  have l8:=ok.ok.l8
  have lc:=ok.ok.lc
  have o4:=ok.o
  have hrow:T.cs[n]? =some (T.cs.getD n []):=by rw [List.getD_eq_getElem?_getD,List.getElem?_eq_getElem (by omega)];rfl
  obtain⟨lr,cr⟩:=ok.c _ (List.mem_of_getElem? hrow)
  obtain⟨y,hy,ry⟩:=rc.get (i:=n) (d:=Bd (T.cs.getD n [])) (by rw [List.getElem?_map,hrow];rfl)
  obtain⟨Cn,rfl,hCn⟩:=Aa.ofRow' ry
  have q':∀H',Ab H H'->Q (.int (x * T.ds.getD n 0+spared (T.cs.getD n []) T.co x+Du T.lo T.hi x b)) H':=q
  generalize T.cs.getD n []=row at hrow lr cr hCn q'
  refine⟨A,_,rfl,Ae.of hA,rfl,_,_,rfl,_,_,rfl,_,_,rfl,_,_,rfl,M,_,rfl,Ae.of hM,rfl,_,_,rfl,_,_,rfl,_,_,rfl,rfl,rfl,?_⟩
  refine⟨C,xc,(n:Int),.ref Cn,rfl,rfl,Ae.of hC,DO hy,Cn,B,rfl,⟨_,Ae.of hCn⟩,⟨_,Ae.of hB⟩,walk_zip (xs:=row.map V.int) (ys:=T.co.map V.int) (λi zs H'=>Ab H H'/\∃ns:List Int,zs=ns.map V.int/\ns.length<=i/\ns.sum=(((row.zip T.co).take i).map (C7 x)).sum) (by rw [List.length_map];omega) (by rw [List.length_map,List.length_map];exact lr) ⟨Ab.refl _,[],rfl,Nat.le_refl _,rfl⟩
    (λi zs H' h=>by obtain⟨_,ns,rfl,hl,_⟩:=h;rw [List.length_map];exact hl) (λi zs H' h=>⟨Ae.of (h.1 _ _ hCn),Ae.of (h.1 _ _ hB)⟩) (λi xx yy zs H' T' hx hy h hT=>?_) λzs H' h=>?_⟩
  ·rw [List.getElem?_map] at hx hy
   obtain⟨m,hm,rfl⟩:=Option.map_eq_some_iff.mp hx
   obtain⟨k,hk,rfl⟩:=Option.map_eq_some_iff.mp hy
   obtain⟨s0,ns,rfl,hl,hs⟩:=h
   have s2:=s0.trans (Ab.new (o:= .tup [.int m,.int k]) hT)
   have hz:(row.zip T.co)[i]? =some (m,k):=by rw [List.getElem?_zip_eq_some];exact⟨hm,hk⟩
   have bm:=cr m (List.mem_of_getElem? hm)
   refine⟨T',_,rfl,Ae.of Ai,rfl,_,_,rfl,_,_,rfl,rfl,⟨rfl,trivial⟩,λc=>?_,λc=>?_⟩
   ·refine⟨.inl ⟨by omega,by omega⟩,s2,ns++[m *(k-x)],by rw [List.map_append];rfl,by rw [List.length_append];simp;exact hl,?_⟩
    rw [Bk hz,List.map_append,List.sum_append,List.sum_append,hs]
    have e:C7 x (m,k)=m *(k-x):=by unfold C7;exact if_pos (of_decide_eq_true c)
    simp [e]
   ·refine⟨s2,ns,rfl,by omega,?_⟩
    rw [Bk hz,List.map_append,List.sum_append,hs]
    have e:C7 x (m,k)=0:=by unfold C7;exact if_neg (of_decide_eq_false c)
    simp [e]
  ·obtain⟨s0,ns,rfl,hl,hs⟩:=h
   intro m hm
   have s2:=s0.trans (Ab.new (o:= .lst (ns.map V.int)) hm)
   have es:ns.sum=spared row T.co x:=by rw [hs,List.take_of_length_le (by rw [List.length_zip,List.length_map];omega)];rfl
   refine⟨m,ns,rfl,Ai,?_⟩
   rw [es]
   have h0:=ok.l0
   have h1:=ok.l4
   have h2:=ok.h0
   have h3:=ok.h4
   have bd:=ok.d _ (getD_mem (d:=0) hn)
   refine⟨λc=>⟨.inr ⟨by omega,by omega⟩,D,_,(n:Int),.int (T.ds.getD n 0),rfl,rfl,Ae.of (s2 _ _ hD),IS hn,.inr ⟨by omega,by omega⟩,?_⟩,λc=>⟨.inr ⟨by omega,by omega⟩,D,_,(n:Int),.int (T.ds.getD n 0),rfl,rfl,Ae.of (s2 _ _ hD),IS hn,.inr ⟨by omega,by omega⟩,?_⟩⟩
   ·have e:Du T.lo T.hi x b=(x-b) * T.lo:=by unfold Du;rw [if_pos (of_decide_eq_true c)]
    rw [e] at q'
    exact q' _ s2
   ·have e:Du T.lo T.hi x b=(x-b) * T.hi:=by unfold Du;rw [if_neg (of_decide_eq_false c)]
    rw [e] at q'
    exact q' _ s2
 ·exact h.elim
end
end MF
end
section
namespace MF
open PySem PySem.Spec PyProof.Rows L2
variable {p : Addr} {H : Hp} {ps : List Int} {v : V}
theorem Aa.tailShape {f:Int} (r:Aa p H (B6 f ps) v):∃a b,v= .ref a/\H a=some (.tup [.int f,.ref b])/\H b=some (.tup (ps.map V.int)):=by
 obtain⟨a,xs,rfl,ha,rs⟩:=Aa.shape r
 obtain⟨x,y,rfl,rx,ry⟩:=Ad.two rs
 unfold Aa at rx
 subst rx
 obtain⟨b,ys,rfl,hb,rb⟩:=Aa.shape ry
 rw [Ad.ints rb] at hb
 exact⟨a,b,rfl,ha,hb⟩
theorem Mi {f f':Int}{ps':List Int} (r:Aa p H (B6 f ps) v) (r':Aa p H (B6 f' ps') v):f=f':=by
 obtain⟨a,b,rfl,ha,hb⟩:=Aa.tailShape r
 obtain⟨a',b',e,ha',hb'⟩:=Aa.tailShape r'
 cases e
 rw [ha] at ha'
 injection ha' with e
 injection e with e
 injection e with e1 _
 injection e1
def GM:Sp:=λvs H Q _=>match vs with | [v,.int h,.ref d]=>∃p T n o kvs,AL T/\h=((n:Nat):Int)/\n<T.ds.length/\Aa p H T.d v/\H d=some (.frz o (.dK kvs))/\kvs.length<=5/\TailsAt p H T (n+1) kvs/\∀d' H' o' kvs',Ab H H'->H' d'=some (.frz o' (.dK kvs'))->kvs'.length<=5->TailsAt p H' T n kvs'->Q (.ref d') H' | _=>False
def GN:Sp:=λvs H Q _=>match vs with | [v]=>∃p T,AL T/\Aa p H T.d v/\∀u H' f ps,Ab H H'->Aa p H' (B6 f ps) u->CS T f ps->Q u H' | _=>False
section
variable {P : Program} {w : World} {K : PySem.W.Frag} {mg : Str -> Option Value} {base : Heap}
theorem sc_tails_from:Ay ["terms","hour","tails","caps","coals","draws","main"] ["terms","hour","tails"] (Aw s_tails_from):=AB
theorem SU (F:Df K mg "tails_from" s_tails_from ["terms","hour","tails"]) (T:Tx mg) (D_floor_at:Fn P w K mg base 1 "floor_at" ["terms","hour","price","behind"] GL):Fn P w K mg base 2 "tails_from" ["terms","hour","tails"] GM:=by
 refine F.fn sc_tails_from (λvs H Q E h=>?_) (λf cdv A outer s H vs Q E hr h=>?_)
 ·unfold GM at h;split at h;rfl;exact h.elim
 refine⟨_,(@Ak _ _ _ _ _ (@A1 _ _ _ _ _ _ (@cx _ 0 _ _ (by rfl)) (@AC _ K _ _ _ (4) _ (@Ah _ _ _ _ _ (@Ag _ _ _ 3 sc_tails_from.nd (by rfl)) (@Ah _ _ _ _ _ (@Ag _ _ _ 4 sc_tails_from.nd (by rfl)) (@Ah _ _ _ _ _ (@Ag _ _ _ 5 sc_tails_from.nd (by rfl)) (@Ah _ _ _ _ _ (@Ag _ _ _ 6 sc_tails_from.nd (by rfl)) (@AA _) (by rfl)) (by rfl)) (by rfl)) (by rfl)) (by rfl) (by rfl) (by rfl) (by rfl)) (by rfl) (by rfl) (by rfl)) (@Ao _ _ _ (@Ax _ _ _ _ (Qi ["price","terms","hour","tails"] [none,some 0,some 1,some 2] rfl (@BW _ K _ _ _ (@As _ _ _ _ _ _ _ _ (@EQ _) (@C6 _ _ _ _ _ (@Al _ _ _ (@Af _ _ _ _) (by rfl))) (@cx _ 4 _ _ (by rfl))) (by rfl)) (AS.of rfl) (λ_ _ _ _=>(@Ag _ _ _ 0 (AN (by rfl)) (by rfl))) (λ_ _ _ _=>(@Bq _)) (λ_ _ _ _=>(@cx _ 0 _ _ (by rfl))) (λ_ _ _ _=>(@AI _ _ _ _ _ _ _ _ _ (KU rfl hr) rfl T.b_max boot_max (@Al _ _ _ (@Bx _ _ _ _ _ _ _ _ _ _ _ ["behind","floor","prices","terms","hour","price"] [none,none,none,some 1,some 2,some 0] rfl (Il (@cx _ 3 _ _ (by rfl))) (AS.of rfl) (λ_ _ _ _=>(@AC _ K _ _ _ (2) _ (@Ah _ _ _ _ _ (@Ag _ _ _ 0 (AN (by rfl)) (by rfl)) (@Ah _ _ _ _ _ (@AC _ K _ _ _ (2) _ (@Ah _ _ _ _ _ (@Ag _ _ _ 1 (AN (by rfl)) (by rfl)) (@Ah _ _ _ _ _ (@Ag _ _ _ 2 (AN (by rfl)) (by rfl)) (@AA _) (by rfl)) (by rfl)) (by rfl) (by rfl) (by rfl) (by rfl)) (@AA _) (by rfl)) (by rfl)) (by rfl) (by rfl) (by rfl) (by rfl))) (λ_ _ _ _=>(@Bq _)) (λ_ _ _ _=>(@C6 _ _ _ _ _ (@Aq _ _ _ _ _ (@As _ _ _ _ _ _ _ _ (@AO _) (@Aj _ _ _ _ _ _ _ _ _ _ D_floor_at (hr.mono (by decide)) rfl (@BI _ _ _ _ _ _ _ _ _ (@cx _ 3 _ _ (by rfl)) (@cx _ 4 _ _ (by rfl)) (@cx _ 5 _ _ (by rfl)) (@cx _ 0 _ _ (by rfl)) (by rfl)) (by decide) (by rfl) (by rfl)) (@cx _ 1 _ _ (by rfl))) (@As _ _ _ _ _ _ _ _ (@EQ _) (@C6 _ _ _ _ _ (@Al _ _ _ (@cx _ 5 _ _ (by rfl)) (by rfl))) (@cx _ 2 _ _ (by rfl))) (by rfl)))) (by intro _;rfl)) (by rfl)) (by decide) (by decide) (by rfl) (by rfl))))))),?_⟩
 unfold GM at h
 split at h
 ·rename_i v hh d
  obtain⟨p,T,n,o,kvs,fl,rfl,hn,r,hd,l5,ta,q⟩:=h
  obtain⟨A,C,B,D,M,xc,rfl,hA,hC,rc,hB,hD,hM⟩:=Aa.terms r
  have o4:=fl.o
  have l8:=fl.ok.l8
  refine⟨A,_,rfl,Ae.of hA,rfl,_,_,rfl,_,_,rfl,_,_,rfl,_,_,rfl,rfl,?_⟩
  refine λt1 H1 s1 k1=>⟨t1,B,_,_,rfl,rfl,k1,s1 _ _ hB,by rw [List.length_map];show 1+_<=1000;omega,λt2 H2 s2 k2=>?_⟩
  have ek:[V.int 0]++T.co.map V.int=(0::T.co).map V.int:=rfl
  rw [ek] at k2
  have s02:=s1.trans s2
  have lc:(0::T.co).length<=5:=by rw [List.length_cons];omega
  have ne:kvs≠ []:=λz=>by
   obtain⟨q,hq,_⟩:=ta.all 0 (by unfold DV;split<;>first | rfl | exact List.mem_cons_self)
   rw [z] at hq;cases hq
  refine⟨t2,rfl,⟨_,Ae.of k2⟩,Qs (xs:=(0::T.co).map V.int) (λi ks H'=>Ab H2 H'/\ks.length<=i/\(∀q∈ks,∃x f ps,q.1= .inl x/\Aa p H' (B6 f ps) q.2/\OneTail T n x f ps)/\∀x∈(0::T.co).take i,∃q∈ks,q.1= .inl x) (by rw [List.length_map];omega) ⟨Ab.refl _,Nat.zero_le _,(λ_ h=>nomatch h),λx h=>(by rw [List.take_zero] at h;cases h)⟩ (λi ks H' h=>h.2.1) (λi ks H' _ h=>Ae.of (h.1 _ _ k2)) (λi x ks H' hx h=>?_) λks H' h=>?_⟩
  ·rw [List.getElem?_map] at hx
   obtain⟨pr,hpr,rfl⟩:=Option.map_eq_some_iff.mp hx
   have mpr:=List.mem_of_getElem? hpr
   obtain⟨s2',lk,one,all⟩:=h
   have s0:=s02.trans s2'
   have r0:=Aa.ev (Ev.same (p:=p) s0) _ _ r
   refine⟨⟨rfl,rfl,rfl,trivial⟩,λ_=>?_,λz=>by cases z⟩
   refine⟨d,o,kvs,rfl,s0 _ _ hd,KM (λj zs H''=>Ab H' H''/\∃fs:List (Int×List PyData),Ad p H'' (fs.map λq=> .tuple (.int q.1::q.2)) zs/\fs.length=j/\∀k q0,k<j->kvs[k]? =some q0->∃fq,fs[k]? =some fq/\Gb p H T (n+1) (λb f=>Bl T n pr b+f) (λps=>pr::ps) q0 fq) (by omega) ⟨Ab.refl _,[],.nil,rfl,(λk _ h=>absurd h (Nat.not_lt_zero k))⟩ (λj zs H'' h=>by obtain⟨_,fs,rs,lf,_⟩:=h;rw [<-rs.len,List.length_map,lf];exact Nat.le_refl _) (λj zs H'' h=>h.1 _ _ (s0 _ _ hd)) (λj q0 zs H'' T' hq h hT=>?_) λzs H'' h=>?_⟩
   ·obtain⟨s3,fs,rs,lf,hfs⟩:=h
    obtain⟨b,f,ps,eb,rq,ot⟩:=ta.one q0 (List.mem_of_getElem? hq)
    obtain⟨kk,y⟩:=q0
    have eb':kk= .inl b:=eb
    subst eb'
    have lps:=ot.len
    have sT:=Ab.new (o:= .tup [.int b,y]) hT
    have s4:=s3.trans sT
    have s04:=s0.trans s4
    obtain⟨l,bb,ey,hl,hbb⟩:=Aa.tailShape (Aa.ev (Ev.same s04) _ _ rq)
    replace ey:y= .ref l:=ey
    subst ey
    refine⟨T',_,rfl,Ae.of Ai,rfl,_,_,rfl,_,_,rfl,l,_,rfl,Ae.of hl,rfl,_,_,rfl,_,_,rfl,rfl,rfl,⟨rfl,rfl,rfl,trivial⟩,λ_=>?_,λz=>by cases z⟩
    have r4:=Aa.ev (Ev.same (p:=p) s04) _ _ r
    refine⟨p,T,n,rfl,hn,fl,r4,λH5 s5=>λt6 H6 s6 k6=>⟨t6,bb,_,_,rfl,rfl,k6,(s5.trans s6) _ _ hbb,by rw [List.length_map];show 1+_<=1000;omega,λt7 H7 s7 k7=>λt8 H8 s8 k8=>?_⟩⟩
    have ek7:[V.int pr]++ps.map V.int=(pr::ps).map V.int:=rfl
    rw [ek7] at k7
    have s58:=s5.trans (s6.trans (s7.trans s8))
    refine⟨s4.trans s58,fs++[(Bl T n pr b+f,[Bd (pr::ps)])],?_,by rw [List.length_append,lf];rfl,λk q1 hk hq1=>?_⟩
    ·rw [List.map_append]
     have s38:Ab H'' H8:=sT.trans s58
     exact Ad.snoc (Ad.ev (Ev.same s38) _ _ rs) (Aa.tup k8 (.cons Aa.int (.cons (Aa.row (s8 _ _ k7)) .nil)))
    ·by_cases z:k<j
     ·obtain⟨fq,h1,h2⟩:=hfs k q1 z hq1
      exact⟨fq,by rw [List.getElem?_append_left (by omega)];exact h1,h2⟩
     ·obtain rfl:k=j:=by omega
      rw [hq] at hq1
      cases hq1
      exact⟨_,by rw [List.getElem?_append_right (by omega),lf,Nat.sub_self];rfl,b,f,ps,rfl,rq,ot,rfl⟩
   ·obtain⟨s3,fs,rs,lf,hfs⟩:=h
    intro L hL
    have nL:=Ab.new (o:= .lst zs) hL
    have rsL:=Ad.ev (Ev.same (p:=p) nL) _ _ rs
    have row:∀fq∈fs,∃q0∈kvs,Gb p H T (n+1) (λb f=>Bl T n pr b+f) (λps=>pr::ps) q0 fq:=λfq hfq=>by
     obtain⟨k,hk⟩:=List.getElem?_of_mem hfq
     have hk':=(List.getElem?_eq_some_iff.mp hk).1
     obtain⟨fq',h1,h2⟩:=hfs k kvs[k] (by omega) (List.getElem?_eq_getElem (by omega))
     rw [hk] at h1;cases h1
     exact⟨_,List.getElem_mem _,h2⟩
    refine⟨p,L,fs,zs,rfl,Ai,rsL,λz=>ne (List.eq_nil_of_length_eq_zero (by rw [z] at lf;exact lf.symm)),λq1 h1 q2 h2=>?_,λi' fq v hfq hv top=>?_⟩
    ·obtain⟨_,_,b1,f1,ps1,_,_,_,e1⟩:=row q1 h1
     obtain⟨_,_,b2,f2,ps2,_,_,_,e2⟩:=row q2 h2
     rw [e1,e2]
     exact .cons (.row _ _) .nil
    ·obtain⟨q0,m0,b,f,ps,eb,rq,ot,rfl⟩:=row fq (List.mem_of_getElem? hfq)
     obtain⟨v',hv',rv⟩:=rsL.get (i:=i') (d:=B6 (Bl T n pr b+f) (pr::ps)) (by rw [List.getElem?_map,hfq];rfl)
     rw [hv] at hv';cases hv'
     have ot':OneTail T n pr (Bl T n pr b+f) (pr::ps):=OneTail.step ta hn mpr ot λb' f' ps' o1 ⟨q1,m1,e1,r1⟩=>by
      obtain⟨k,hk⟩:=List.getElem?_of_mem m1
      have hk':=(List.getElem?_eq_some_iff.mp hk).1
      obtain⟨fq',g1,b2,f2,ps2,e2,r2,o2,rfl⟩:=hfs k q1 hk' hk
      have eb2:b2=b':=by rw [e1] at e2;injection e2 with e2;exact e2.symm
      subst eb2
      have ef:=Mi r1 r2
      subst ef
      exact top _ (List.mem_of_getElem? g1)
     have s2L:=s2'.trans (s3.trans nL)
     refine⟨.inl pr,rfl,s2L,Nat.le_trans (KN _ _ _) (by omega),λq1 h1=>?_,λx hx=>?_⟩
     ·rcases Qy h1 with h1 | rfl
      ·obtain⟨x,f1,ps1,e1,r1,o1⟩:=one q1 h1
       exact⟨x,f1,ps1,e1,Aa.ev (Ev.same (s3.trans nL)) _ _ r1,o1⟩
      ·exact⟨pr,_,_,rfl,rv,ot'⟩
     ·rw [Bk hpr] at hx
      rcases List.mem_append.mp hx with hx | hx
      ·obtain⟨q1,h1,e1⟩:=all x hx
       obtain⟨q2,h2,e2⟩:=QA (k:= .inl pr) (v:=v) h1
       exact⟨q2,h2,e2.trans e1⟩
      ·rw [List.mem_singleton.mp hx]
       exact Qz
  ·obtain⟨s2',lk,one,all⟩:=h
   intro d' o' hd'
   rw [List.length_map] at lk all
   have nd:=Ab.new (o:= .frz o' (.dK ks)) hd'
   refine q d' _ o' ks (s02.trans (s2'.trans nd)) Ai (by omega) ⟨λq1 h1=>?_,λx hx=>?_⟩
   ·obtain⟨x,f1,ps1,e1,r1,o1⟩:=one q1 h1
    exact⟨x,f1,ps1,e1,Aa.ev (Ev.same nd) _ _ r1,o1⟩
   ·unfold DV at hx
    rw [if_neg (by omega)] at hx
    exact all x (by rw [List.take_length];exact hx)
 ·exact h.elim
theorem sc_highest_floor:Ay ["terms","caps","coals","draws","low","high","start","tails","hour"] ["terms"] (Aw s_highest_floor):=AB
theorem SV (F:Df K mg "highest_floor" s_highest_floor ["terms"]) (T:Tx mg) (D_tails_from:Fn P w K mg base 2 "tails_from" ["terms","hour","tails"] GM):Fn P w K mg base 3 "highest_floor" ["terms"] GN:=by
 refine F.fn sc_highest_floor (λvs H Q E h=>?_) (λf cdv A outer s H vs Q E hr h=>?_)
 ·unfold GN at h;split at h;rfl;exact h.elim
 refine⟨_,(@Ak _ _ _ _ _ (@A1 _ _ _ _ _ _ (@cx _ 0 _ _ (by rfl)) (@AC _ K _ _ _ (4) _ (@Ah _ _ _ _ _ (@Ag _ _ _ 1 sc_highest_floor.nd (by rfl)) (@Ah _ _ _ _ _ (@Ag _ _ _ 2 sc_highest_floor.nd (by rfl)) (@Ah _ _ _ _ _ (@Ag _ _ _ 3 sc_highest_floor.nd (by rfl)) (@Ah _ _ _ _ _ (@AC _ K _ _ _ (3) _ (@Ah _ _ _ _ _ (@Ag _ _ _ 4 sc_highest_floor.nd (by rfl)) (@Ah _ _ _ _ _ (@Ag _ _ _ 5 sc_highest_floor.nd (by rfl)) (@Ah _ _ _ _ _ (@Ag _ _ _ 6 sc_highest_floor.nd (by rfl)) (@AA _) (by rfl)) (by rfl)) (by rfl)) (by rfl) (by rfl) (by rfl) (by rfl)) (@AA _) (by rfl)) (by rfl)) (by rfl)) (by rfl)) (by rfl) (by rfl) (by rfl) (by rfl)) (by rfl) (by rfl) (by rfl)) (@Ak _ _ _ _ _ (@AH _ _ (7) _ _ _ _ sc_highest_floor.nd rfl (AD (by rfl)) (Qq (@C6 _ _ _ _ _ (@Aq _ _ _ _ _ (@Af _ _ _ _) (@C6 _ _ _ _ _ (@Cu _)) (by rfl)))) (by rfl) (AE (by rfl))) (@Ak _ _ _ _ _ (@Bp _ _ _ _ _ _ _ _ PassesOwn.never rfl (Qo rfl T.b_reversed rfl T.b_range (@Al _ _ _ (@AI _ _ _ _ _ _ _ _ _ (@BG _ K (by rfl)) rfl T.b_len PySem.boot_len (@Al _ _ _ (@cx _ 3 _ _ (by rfl)) (by rfl)) (by decide) (by decide) (by rfl) (by rfl)) (by rfl))) (@Ag _ _ _ 8 sc_highest_floor.nd (by rfl)) (@Ao _ _ _ (@AH _ _ (7) _ _ _ _ sc_highest_floor.nd rfl (AD (by rfl)) (@Aj _ _ _ _ _ _ _ _ _ _ D_tails_from (hr.mono (by decide)) rfl (@AG _ _ _ _ _ _ _ (@cx _ 0 _ _ (by rfl)) (@cx _ 8 _ _ (by rfl)) (@cx _ 7 _ _ (by rfl)) (by rfl)) (by decide) (by rfl) (by rfl)) (by rfl) (AE (by rfl)))) (by intro _;rfl)) (@Ao _ _ _ (@Ax _ _ _ _ (@AI _ _ _ _ _ _ _ _ _ (KU rfl hr) rfl T.b_max boot_max (@Al _ _ _ (@Bx _ _ _ _ _ _ _ _ _ _ _ ["price","floor","prices","start"] [none,none,none,some 6] rfl (Il (@cx _ 7 _ _ (by rfl))) (AS.of rfl) (λ_ _ _ _=>(@AC _ K _ _ _ (2) _ (@Ah _ _ _ _ _ (@Ag _ _ _ 0 (AN (by rfl)) (by rfl)) (@Ah _ _ _ _ _ (@AC _ K _ _ _ (2) _ (@Ah _ _ _ _ _ (@Ag _ _ _ 1 (AN (by rfl)) (by rfl)) (@Ah _ _ _ _ _ (@Ag _ _ _ 2 (AN (by rfl)) (by rfl)) (@AA _) (by rfl)) (by rfl)) (by rfl) (by rfl) (by rfl) (by rfl)) (@AA _) (by rfl)) (by rfl)) (by rfl) (by rfl) (by rfl) (by rfl))) (λ_ _ _ _=>(@Bq _)) (λ_ _ _ _=>(@C6 _ _ _ _ _ (@Aq _ _ _ _ _ (@As _ _ _ _ _ _ _ _ (@Bh _) (@cx _ 1 _ _ (by rfl)) (@As _ _ _ _ _ _ _ _ (@Dp _) (@cx _ 0 _ _ (by rfl)) (@cx _ 3 _ _ (by rfl)))) (@cx _ 2 _ _ (by rfl)) (by rfl)))) (by intro _;rfl)) (by rfl)) (by decide) (by decide) (by rfl) (by rfl))))))),?_⟩
 unfold GN at h
 split at h
 ·rename_i v
  obtain⟨p,T,fl,r,q⟩:=h
  obtain⟨A,C,B,D,M,xc,rfl,hA,hC,rc,hB,hD,hM⟩:=Aa.terms r
  have l8:=fl.ok.l8
  refine⟨A,_,rfl,Ae.of hA,rfl,_,_,rfl,_,_,rfl,_,_,rfl,_,_,rfl,M,_,rfl,Ae.of hM,rfl,_,_,rfl,_,_,rfl,_,_,rfl,rfl,rfl,?_⟩
  refine λt1 H1 s1 k1=>λt2 H2 s2 k2=>λd0 o0 hd0=>?_
  have n0:=Ab.new (o:= .frz o0 (.dK [(.inl 0,.ref t2)])) hd0
  have r2:Aa p H2 (B6 0 []) (.ref t2):=Aa.tup k2 (.cons Aa.int (.cons (Aa.tup (s2 _ _ k1) .nil) .nil))
  have ta0:=(QB (T:=T) r2).same n0
  have s3:=s1.trans (s2.trans n0)
  have kd0:upd H2 d0 (.frz o0 (.dK [(.inl 0,.ref t2)])) d0=some (.frz o0 (.dK [(.inl 0,.ref t2)])):=Ai
  generalize upd H2 d0 (.frz o0 (.dK [(.inl 0,.ref t2)]))=H3 at s3 ta0 kd0 ⊢
  refine⟨D,_,rfl,.inr (Ae.of (s3 _ _ hD)),_,rfl,by omega,by rw [List.length_map];omega,Pc (λi σ H'=>∃x8 d o kvs,σ=[some (.ref A),some (.ref C),some (.ref B),some (.ref D),some (.int T.lo),some (.int T.hi),some (.int T.st),some (.ref d),x8]/\i<=T.ds.length/\Ab H H'/\H' d=some (.frz o (.dK kvs))/\kvs.length<=5/\TailsAt p H' T (T.ds.length-i) kvs) ⟨_,d0,o0,_,rfl,Nat.zero_le _,s3,kd0,by show 1<=5;decide,ta0⟩ (λi σ H' hi h=>?_) fun σ H' h=>?_⟩
  ·obtain⟨x8,d,o,kvs,rfl,hi',s',kd,l5,ta⟩:=h
   have hi2:i<T.ds.length:=by rw [List.length_map] at hi;omega
   refine⟨p,T,T.ds.length-(i+1),o,kvs,fl,by rw [List.length_map];omega,by omega,Aa.ev (Ev.same s') _ _ r,kd,l5,by rw [show T.ds.length-(i+1)+1=T.ds.length-i by omega];exact ta,λd' H4 o' kvs' s4 kd' l5' ta'=>⟨_,d',o',kvs',rfl,by omega,s'.trans s4,kd',l5',ta'⟩⟩
  ·obtain⟨x8,d,o,kvs,rfl,hi',s',kd,l5,ta⟩:=h
   have e0:T.ds.length-((T.ds.map V.int).length:Int).toNat=0:=by rw [List.length_map];omega
   rw [e0] at ta
   have ne:kvs≠ []:=λz=>by
    obtain⟨q,hq,_⟩:=ta.all 0 (by unfold DV;split<;>first | rfl | exact List.mem_cons_self)
    rw [z] at hq;cases hq
   have h0:=fl.s0
   have h4:=fl.s4
   refine⟨d,o,kvs,rfl,kd,KM (λj zs H''=>Ab H' H''/\∃fs:List (Int×List PyData),Ad p H'' (fs.map λq=> .tuple (.int q.1::q.2)) zs/\fs.length=j/\∀k q0,k<j->kvs[k]? =some q0->∃fq,fs[k]? =some fq/\Gb p H' T 0 (λb f=>f-b * T.st) (λps=>ps) q0 fq) (by omega) ⟨Ab.refl _,[],.nil,rfl,(λk _ h=>absurd h (Nat.not_lt_zero k))⟩ (λj zs H'' h=>by obtain⟨_,fs,rs,lf,_⟩:=h;rw [<-rs.len,List.length_map,lf];exact Nat.le_refl _) (λj zs H'' h=>h.1 _ _ kd) (λj q0 zs H'' T' hq h hT=>?_) λzs H'' h=>?_⟩
   ·obtain⟨s3,fs,rs,lf,hfs⟩:=h
    obtain⟨b,f,ps,eb,rq,ot⟩:=ta.one q0 (List.mem_of_getElem? hq)
    obtain⟨kk,y⟩:=q0
    have eb':kk= .inl b:=eb
    subst eb'
    obtain⟨l,bb,ey,hl0,hbb0⟩:=Aa.tailShape (Aa.ev (Ev.same s3) _ _ rq)
    replace ey:y= .ref l:=ey
    subst ey
    have sT:=Ab.new (o:= .tup [.int b,.ref l]) hT
    have s4:=s3.trans sT
    have hl:=sT _ _ hl0
    have hbb:=sT _ _ hbb0
    refine⟨T',_,rfl,Ae.of Ai,rfl,_,_,rfl,_,_,rfl,l,_,rfl,Ae.of hl,rfl,_,_,rfl,_,_,rfl,rfl,rfl,⟨rfl,trivial⟩,λ_=>?_,λz=>by cases z⟩
    refine⟨.inr ⟨Int.lt_of_lt_of_le (by decide) h0,Int.lt_of_le_of_lt h4 (by decide)⟩,λt8 H8 s8 k8=>?_⟩
    refine⟨s4.trans s8,fs++[(f-b * T.st,[Bd ps])],?_,by rw [List.length_append,lf];rfl,λk q1 hk hq1=>?_⟩
    ·rw [List.map_append]
     exact Ad.snoc (Ad.ev (Ev.same (sT.trans s8)) _ _ rs) (Aa.tup k8 (.cons Aa.int (.cons (Aa.row (s8 _ _ hbb)) .nil)))
    ·by_cases z:k<j
     ·obtain⟨fq,h1,h2⟩:=hfs k q1 z hq1
      exact⟨fq,by rw [List.getElem?_append_left (by omega)];exact h1,h2⟩
     ·obtain rfl:k=j:=by omega
      rw [hq] at hq1
      cases hq1
      exact⟨_,by rw [List.getElem?_append_right (by omega),lf,Nat.sub_self];rfl,b,f,ps,rfl,rq,ot,rfl⟩
   ·obtain⟨s3,fs,rs,lf,hfs⟩:=h
    intro L hL
    have nL:=Ab.new (o:= .lst zs) hL
    have rsL:=Ad.ev (Ev.same (p:=p) nL) _ _ rs
    have row:∀fq∈fs,∃q0∈kvs,Gb p H' T 0 (λb f=>f-b * T.st) (λps=>ps) q0 fq:=λfq hfq=>by
     obtain⟨k,hk⟩:=List.getElem?_of_mem hfq
     have hk':=(List.getElem?_eq_some_iff.mp hk).1
     obtain⟨fq',h1,h2⟩:=hfs k kvs[k] (by omega) (List.getElem?_eq_getElem (by omega))
     rw [hk] at h1;cases h1
     exact⟨_,List.getElem_mem _,h2⟩
    refine⟨p,L,fs,zs,rfl,Ai,rsL,λz=>ne (List.eq_nil_of_length_eq_zero (by rw [z] at lf;exact lf.symm)),λq1 h1 q2 h2=>?_,λi' fq v hfq hv top=>?_⟩
    ·obtain⟨_,_,b1,f1,ps1,_,_,_,e1⟩:=row q1 h1
     obtain⟨_,_,b2,f2,ps2,_,_,_,e2⟩:=row q2 h2
     rw [e1,e2]
     exact .cons (.row _ _) .nil
    ·obtain⟨q0,m0,b,f,ps,eb,rq,ot,rfl⟩:=row fq (List.mem_of_getElem? hfq)
     obtain⟨v',hv',rv⟩:=rsL.get (i:=i') (d:=B6 (f-b * T.st) ps) (by rw [List.getElem?_map,hfq];rfl)
     rw [hv] at hv';cases hv'
     refine q _ _ _ ps (s'.trans (s3.trans nL)) rv (QD ta ot λx' f' ps' o1 ⟨q1,m1,e1,r1⟩=>?_)
     obtain⟨k,hk⟩:=List.getElem?_of_mem m1
     have hk':=(List.getElem?_eq_some_iff.mp hk).1
     obtain⟨fq',g1,b2,f2,ps2,e2,r2,o2,rfl⟩:=hfs k q1 hk' hk
     have eb2:b2=x':=by rw [e1] at e2;injection e2 with e2;exact e2.symm
     subst eb2
     have ef:=Mi r1 r2
     subst ef
     exact top _ (List.mem_of_getElem? g1)
 ·exact h.elim
end
end MF
end
section
namespace MF
open PySem PySem.Spec PyProof.Rows L2
variable {p : Addr} {H : Hp}
theorem Aa.intE {a b:Int} (h:b=a):Aa p H (.int a) (.int b):=by subst h;exact Aa.int
theorem Aa.pair {q:Nat×Nat}{v:V} (r:Aa p H (pD q) v):∃A,v= .ref A/\H A=some (.tup [.int q.1,.int q.2]):=by
 obtain⟨A,xs,rfl,hA,rs⟩:=Aa.shape r
 obtain⟨x,y,rfl,rx,ry⟩:=Ad.two rs
 unfold Aa at rx ry
 subst rx ry
 exact⟨A,rfl,hA⟩
theorem SW {xs:List V}{i:Nat} (h:i<=xs.length):Bw xs none (some (i:Int))=xs.take i:=by
 unfold Bw HT.sIx
 dsimp only
 rw [if_neg (by omega),List.drop_zero,Nat.sub_zero,Int.toNat_natCast,Nat.min_eq_left h]
def GO:Sp:=λvs H Q _=>match vs with | [v,u]=>∃p T f l,TM.ok T/\Aa p H T.d v/\Aa p H (pD (f,l)) u/\f<=l/\l<T.ds.length/\∀H',Ab H H'->Q (.bl (Bz T f l)) H' | _=>False
def GP:Sp:=λvs H Q _=>match vs with | [v]=>∃p T,TM.ok T/\Aa p H T.d v/\ret H Q p (Kz (AK T)) | _=>False
def Fe:Sp:=λvs H Q _=>match vs with | [.ref A,.int n,y]=>∃xs,∃k:Nat,n=(k:Int)/\k<xs.length/\xs.length<=100/\H A=some (.tup xs)/\∀B H',Ab H H'->H' B=some (.tup (xs.set k y))->Q (.ref B) H' | _=>False
def IU:Sp:=λvs H Q _=>match vs with | [v]=>∃p T,AL T/\Aa p H T.d v/\(AK T≠none->∀H',Ab H H'->Q .non H')/\(AK T=none->∀f ps H',CS T f ps->Ab H H'->Q (.int f) H') | _=>False
def GQ:Sp:=λvs H Q _=>match vs with | [.ref A,.int n,.int u]=>∃ns:List Int,∃k:Nat,n=(k:Int)/\k<ns.length/\ns.length<=100/\H A=some (.tup (ns.map V.int))/\∀B H',Ab H H'->H' B=some (.tup ((ns.set k (ns.getD k 0+u)).map V.int))->Q (.ref B) H' | _=>False
section
variable {P : Program} {w : World} {K : PySem.W.Frag} {mg : Str -> Option Value} {base : Heap}
theorem sc_is_too_much:Ay ["terms","stretch","caps","coals","draws","low","high","start","first","last","ahead","most"] ["terms","stretch"] (Aw s_is_too_much):=AB
theorem SX (F:Df K mg "is_too_much" s_is_too_much ["terms","stretch"]) (T:Tx mg)  :Fn P w K mg base 1 "is_too_much" ["terms","stretch"] GO:=by
 refine F.fn sc_is_too_much (λvs H Q E h=>?_) (λf cdv A outer s H vs Q E hr h=>?_)
 ·unfold GO at h;split at h;rfl;exact h.elim
 refine⟨_,(Ak (A1 (cx 0 (by rfl)) (AC K (n:=4) (Ah (Ag 2 sc_is_too_much.nd (by rfl)) (Ah (Ag 3 sc_is_too_much.nd (by rfl)) (Ah (Ag 4 sc_is_too_much.nd (by rfl)) (Ah (AC K (n:=3) (Ah (Ag 5 sc_is_too_much.nd (by rfl)) (Ah (Ag 6 sc_is_too_much.nd (by rfl)) (Ah (Ag 7 sc_is_too_much.nd (by rfl)) AA (by rfl)) (by rfl)) (by rfl)) (by rfl) (by rfl) (by rfl) (by rfl)) AA (by rfl)) (by rfl)) (by rfl)) (by rfl)) (by rfl) (by rfl) (by rfl) (by rfl)) (by rfl) (by rfl) (by rfl)) (Ak (A1 (cx 1 (by rfl)) (AC K (n:=2) (Ah (Ag 8 sc_is_too_much.nd (by rfl)) (Ah (Ag 9 sc_is_too_much.nd (by rfl)) AA (by rfl)) (by rfl)) (by rfl) (by rfl) (by rfl) (by rfl)) (by rfl) (by rfl) (by rfl)) (Ak (AH (i:=10) sc_is_too_much.nd rfl (AD (by rfl)) (EO (A4 DM (cx 8 (by rfl)) Af (A3 _)) (cx 7 (by rfl)) (cx 6 (by rfl))) (by rfl) (AE (by rfl))) (Ak (AH (i:=11) sc_is_too_much.nd rfl (AD (by rfl)) (AI (FZ rfl) rfl T.b_sum boot_sum (Al (Bx ["row"] [none] rfl (BW K (Eb s_tup (cx 2 (by rfl)) (CW (cx 8 (by rfl))) (CW (As AO (cx 9 (by rfl)) Af))) (by rfl)) (AS.of rfl) (λ_ _ _ _=>(Ag 0 (AN (by rfl)) (by rfl))) (λ_ _ _ _=>Bq) (λ_ _ _ _=>(AI (FZ rfl) rfl T.b_sum boot_sum (Al (cx 0 (by rfl)) (by rfl)) (by decide) (by decide) (by rfl) (by rfl))) (by intro _;rfl)) (by rfl)) (by decide) (by decide) (by rfl) (by rfl)) (by rfl) (AE (by rfl))) (Ao (Ax (D9 DU (As AO (cx 10 (by rfl)) (cx 11 (by rfl))) (As AO (AI (FZ rfl) rfl T.b_sum boot_sum (Al (Eb s_tup (cx 4 (by rfl)) (CW (cx 8 (by rfl))) (CW (As AO (cx 9 (by rfl)) Af))) (by rfl)) (by decide) (by decide) (by rfl) (by rfl)) (cx 5 (by rfl))) (A3 _)))))))),?_⟩
 unfold GO at h
 split at h
 ·rename_i v u
  obtain⟨p,T,f,l,ok,r,ru,hfl,hl,q⟩:=h
  obtain⟨A,C,B,D,M,xc,rfl,hA,hC,rc,hB,hD,hM⟩:=Aa.terms r
  obtain⟨U,rfl,hU⟩:=Aa.pair ru
  have l8:=ok.l8
  have lc:=ok.lc
  have lx:=rc.len
  rw [List.length_map] at lx
  refine⟨A,_,rfl,Ae.of hA,rfl,_,_,rfl,_,_,rfl,_,_,rfl,_,_,rfl,M,_,rfl,Ae.of hM,rfl,_,_,rfl,_,_,rfl,_,_,rfl,rfl,rfl,?_⟩
  refine⟨U,_,rfl,Ae.of hU,rfl,_,_,rfl,_,_,rfl,rfl,rfl,⟨λc=>?_,λc=>?_⟩⟩
  ·have ea:(if f=0 then T.st else T.hi)=T.st:=by
    rw [Ca] at c
    have:(f:Int)=0:=by simpa using c
    rw [if_pos (by omega)]
   refine⟨(f:Int),rfl,(l:Int)+1,rfl,C,xc,rfl,hC,λR H1 s1 k1=>?_⟩
   rw [F8 hfl (by omega)] at k1
   have rp:=Ad.part (Ad.ev (Ev.same s1) _ _ rc) f l
   rw [Ej] at rp
   have lp:=Ku (xs:=T.cs) hfl (by omega)
   have lq:=rp.len
   rw [List.length_map] at lq
   refine⟨R,rfl,⟨_,Ae.of k1⟩,B4 (xs:=part xc f l) (λi ys H'=>Ab H1 H'/\ys=(((part T.cs f l).take i).map List.sum).map V.int) (by omega) ⟨Ab.refl _,rfl⟩ (λi ys H' h=>by rw [h.2,List.length_map,List.length_map,List.length_take];omega) (λi ys H' _ h=>Ae.of (h.1 _ _ k1)) (λi x ys H' hx h=>?_) λys H2 h=>?_⟩
   ·obtain⟨r',hr',rr⟩:=Ad.mapGot rp hx
    obtain⟨ra,rfl,hra⟩:=Aa.ofRow' rr
    refine⟨trivial,λ_=>⟨ra,r',rfl,.inr (h.1 _ _ hra),h.1,?_⟩,λz=>by cases z⟩
    rw [Bk hr',List.map_append,List.map_append,h.2];rfl
   ·intro m hm
    have s2:=s1.trans (h.1.trans (Ab.new (o:= .lst ys) hm))
    refine⟨m,(part T.cs f l).map List.sum,rfl,.inl ?_,?_⟩
    ·rw [Ai,h.2,List.take_of_length_le (by omega)]
    refine⟨(f:Int),rfl,(l:Int)+1,rfl,D,T.ds.map V.int,rfl,s2 _ _ hD,λR2 H3 s3 k3=>?_⟩
    rw [F8 hfl (by rw [List.length_map];exact hl),Ej] at k3
    refine⟨R2,part T.ds f l,rfl,.inr k3,?_⟩
    have:=q H3 (s2.trans s3)
    unfold Bz at this
    rw [ea] at this
    exact this
  ·have ea:(if f=0 then T.st else T.hi)=T.hi:=by
    rw [Ca] at c
    have:(f:Int)≠0:=by simpa using c
    rw [if_neg (by omega)]
   refine⟨(f:Int),rfl,(l:Int)+1,rfl,C,xc,rfl,hC,λR H1 s1 k1=>?_⟩
   rw [F8 hfl (by omega)] at k1
   have rp:=Ad.part (Ad.ev (Ev.same s1) _ _ rc) f l
   rw [Ej] at rp
   have lp:=Ku (xs:=T.cs) hfl (by omega)
   have lq:=rp.len
   rw [List.length_map] at lq
   refine⟨R,rfl,⟨_,Ae.of k1⟩,B4 (xs:=part xc f l) (λi ys H'=>Ab H1 H'/\ys=(((part T.cs f l).take i).map List.sum).map V.int) (by omega) ⟨Ab.refl _,rfl⟩ (λi ys H' h=>by rw [h.2,List.length_map,List.length_map,List.length_take];omega) (λi ys H' _ h=>Ae.of (h.1 _ _ k1)) (λi x ys H' hx h=>?_) λys H2 h=>?_⟩
   ·obtain⟨r',hr',rr⟩:=Ad.mapGot rp hx
    obtain⟨ra,rfl,hra⟩:=Aa.ofRow' rr
    refine⟨trivial,λ_=>⟨ra,r',rfl,.inr (h.1 _ _ hra),h.1,?_⟩,λz=>by cases z⟩
    rw [Bk hr',List.map_append,List.map_append,h.2];rfl
   ·intro m hm
    have s2:=s1.trans (h.1.trans (Ab.new (o:= .lst ys) hm))
    refine⟨m,(part T.cs f l).map List.sum,rfl,.inl ?_,?_⟩
    ·rw [Ai,h.2,List.take_of_length_le (by omega)]
    refine⟨(f:Int),rfl,(l:Int)+1,rfl,D,T.ds.map V.int,rfl,s2 _ _ hD,λR2 H3 s3 k3=>?_⟩
    rw [F8 hfl (by rw [List.length_map];exact hl),Ej] at k3
    refine⟨R2,part T.ds f l,rfl,.inr k3,?_⟩
    have:=q H3 (s2.trans s3)
    unfold Bz at this
    rw [ea] at this
    exact this
 ·exact h.elim
theorem sc_least_stretch:Ay ["terms","caps","coals","draws","main","hours","stretches","found"] ["terms"] (Aw s_least_stretch):=AB
theorem SZ (F:Df K mg "least_stretch" s_least_stretch ["terms"]) (T:Tx mg) (D_is_too_much:Fn P w K mg base 1 "is_too_much" ["terms","stretch"] GO):Fn P w K mg base 2 "least_stretch" ["terms"] GP:=by
 refine F.fn sc_least_stretch (λvs H Q E h=>?_) (λf cdv A outer s H vs Q E hr h=>?_)
 ·unfold GP at h;split at h;rfl;exact h.elim
 refine⟨_,(Ak (A1 (cx 0 (by rfl)) (AC K (n:=4) (Ah (Ag 1 sc_least_stretch.nd (by rfl)) (Ah (Ag 2 sc_least_stretch.nd (by rfl)) (Ah (Ag 3 sc_least_stretch.nd (by rfl)) (Ah (Ag 4 sc_least_stretch.nd (by rfl)) AA (by rfl)) (by rfl)) (by rfl)) (by rfl)) (by rfl) (by rfl) (by rfl) (by rfl)) (by rfl) (by rfl) (by rfl)) (Ak (AH (i:=5) sc_least_stretch.nd rfl (AD (by rfl)) (AI (BG K (by rfl)) rfl T.b_len PySem.boot_len (Al (cx 3 (by rfl)) (by rfl)) (by decide) (by decide) (by rfl) (by rfl)) (by rfl) (AE (by rfl))) (Ak (PK (i:=6) ["first","last","hours"] [none,none,some 5] sc_least_stretch.nd rfl (AD (by rfl)) rfl (Cq rfl T.b_range (Al (cx 5 (by rfl)) (by rfl)) (by rfl)) (AS.of rfl) (λ_ _ _ _=>(Ag 0 (AN (by rfl)) (by rfl))) (λ_ _ _ _=>Bq) (λ_ _ _ _=>(Nj rfl T.b_range (Aq (cx 0 (by rfl)) (cx 2 (by rfl)) (by rfl)) (by rfl) (by rfl))) (λ_ _ _ _=>(Ag 1 (AN (by rfl)) (by rfl))) (λ_ _ _ _=>Bq) (λ_ _ _ _=>(Bc (Aq (cx 0 (by rfl)) (cx 1 (by rfl)) (by rfl)))) (by rfl) (AE (by rfl)) (by intro _;rfl) (by intro _ _;rfl)) (Ak (HS (i:=7) ["stretch","terms"] [none,some 0] sc_least_stretch.nd rfl (AD (by rfl)) rfl (FU K (cx 6 (by rfl)) (by rfl)) (AS.of rfl) (λ_ _ _ _=>(Ag 0 (AN (by rfl)) (by rfl))) (λ_ _ _ _=>(FB (Cc (Aj D_is_too_much (hr.mono (by decide)) rfl (Aq (cx 1 (by rfl)) (cx 0 (by rfl)) (by rfl)) (by decide) (by rfl) (by rfl)) (by intro _;rfl)))) (λ_ _ _ _=>(cx 0 (by rfl))) (by rfl) (AE (by rfl)) (by intro _;rfl)) (Ao (Ax (EO (PP (cx 7 (by rfl)) (by intro _;rfl)) (AF (Bu K (by rfl)) (cx 7 (by rfl)) Af (λ_ _=>rfl)) Dj))))))),?_⟩
 unfold GP at h
 split at h
 ·rename_i v
  obtain⟨p,T,ok,r,q⟩:=h
  obtain⟨A,C,B,D,M,xc,rfl,hA,hC,rc,hB,hD,hM⟩:=Aa.terms r
  have l8:=ok.l8
  refine⟨A,_,rfl,Ae.of hA,rfl,_,_,rfl,_,_,rfl,_,_,rfl,_,_,rfl,rfl,?_⟩
  refine⟨D,_,rfl,.inr (Ae.of hD),?_⟩
  rw [List.length_map]
  refine⟨_,rfl,by omega,by omega,PH (n:=T.ds.length) (λi zs H'=>Ab H H'/\Ad p H' ((BY T.ds.length i).map pD) zs) ⟨Ab.refl _,.nil⟩ (λi zs H1 hi h=>?_) λzs H1 h=>?_⟩
  ·refine⟨⟨rfl,trivial⟩,λ_=>?_,λz=>by cases z⟩
   have lz:=h.2.len
   rw [List.length_map] at lz
   have ls:=Kx (n:=T.ds.length) (k:=i)
   have lm:T.ds.length * i<=8 * 8:=Nat.mul_le_mul l8 (by omega)
   have e0:((T.ds.length:Int)-(0+(i:Int))).toNat=T.ds.length-i:=by omega
   refine⟨_,_,rfl,⟨by omega,by omega,by omega,by omega⟩,?_⟩
   rw [e0]
   refine PF (n:=T.ds.length-i) (λj ys H2=>Ab H H2/\Ad p H2 ((BY T.ds.length i++Cz i j).map pD) ys/\j<=8) ⟨h.1,?_,Nat.zero_le _⟩ (λj ys H2 h=>?_) (λj ys H2 hj h2=>?_) λys H2 h2=>?_
   ·have e1:Cz i 0=[]:=rfl
    rw [e1,List.append_nil];exact h.2
   ·have h3:=h.2.1.len
    rw [List.length_map,List.length_append,Kv] at h3
    have:=h.2.2
    omega
   ·refine⟨⟨rfl,rfl,trivial⟩,λ_ t ht=>?_,λz=>by cases z⟩
    have nt:=Ab.new (o:= .tup [.int (0+(i:Int)),.int (0+(i:Int)+(j:Int))]) ht
    refine⟨h2.1.trans nt,?_,by omega⟩
    rw [PQ,<-List.append_assoc,List.map_append]
    exact Ad.snoc (Ad.ev (Ev.same nt) _ _ h2.2.1) (Aa.tup Ai (.cons (Aa.intE (by simp)) (.cons (Aa.intE (by simp)) .nil)))
   ·refine⟨h2.1,?_⟩
    rw [Kw]
    exact h2.2.1
  ·intro m hm
   have s1:=h.1.trans (Ab.new (o:= .lst zs) hm)
   have r1:=Ad.ev (Ev.new (p:=p) (o:= .lst zs) hm) _ _ h.2
   have lz:=h.2.len
   rw [List.length_map] at lz
   have ls:=Kx (n:=T.ds.length) (k:=T.ds.length)
   have lm:T.ds.length * T.ds.length<=8 * 8:=Nat.mul_le_mul l8 l8
   refine⟨m,rfl,⟨zs,An.of Ai⟩,Op (xs:=zs) (λi ys H'=>Ab (upd H1 m (.lst zs)) H'/\Ad p H' ((((BY T.ds.length T.ds.length).take i).filter λq=>Bz T q.1 q.2).map pD) ys) (by omega) ⟨Ab.refl _,.nil⟩ (λi ys H' h=>?_) (λi ys H' _ h=>An.of (h.1 _ _ Ai)) (λi x ys H' hx h=>?_) λys H2 h2=>?_⟩
   ·rw [<-h.2.len,List.length_map]
    exact Nat.le_trans (List.length_filter_le _ _) (by rw [List.length_take];omega)
   ·obtain⟨⟨f,l⟩,hf,rd⟩:=Ad.mapGot r1 hx
    obtain⟨hfl,hl⟩:=Ky (Nat.le_refl _) _ (List.mem_of_getElem? hf)
    refine⟨⟨rfl,trivial⟩,p,T,f,l,ok,Aa.ev (Ev.same (s1.trans h.1)) _ _ r,Aa.ev (Ev.same h.1) _ _ rd,hfl,hl,λH3 s3=>⟨λc=>?_,λc=>?_⟩⟩
    ·refine⟨h.1.trans s3,?_⟩
     rw [Bk hf,List.filter_append,List.filter_cons_of_pos (by exact c),List.map_append]
     exact Ad.snoc (Ad.ev (Ev.same s3) _ _ h.2) (Aa.ev (Ev.same (h.1.trans s3)) _ _ rd)
    ·refine⟨h.1.trans s3,?_⟩
     rw [Bk hf,List.filter_append,List.filter_cons_of_neg (by rw [show Bz T (f,l).1 (f,l).2=false from c];decide),List.filter_nil,List.append_nil]
     exact Ad.ev (Ev.same s3) _ _ h.2
   ·intro m2 hm2
    rw [List.take_of_length_le (by omega)] at h2
    have s2:=s1.trans (h2.1.trans (Ab.new (o:= .lst ys) hm2))
    have r2:=Ad.ev (Ev.new (p:=p) (o:= .lst ys) hm2) _ _ h2.2
    refine⟨m2,ys,rfl,Ai,⟨λc=>?_,λc=>?_⟩⟩
    ·cases ys with
     | nil=>cases c
     | cons y ys=>
      refine⟨m2,_,0,y,rfl,rfl,An.of Ai,DO (j:=0) rfl,q _ _ s2 ?_⟩
      have eq:Ek T=(BY T.ds.length T.ds.length).filter λq=>Bz T q.1 q.2:=rfl
      unfold AK
      rw [<-eq] at r2
      cases z:Ek T with
      | nil=>rw [z] at r2;have:=r2.len;cases this
      | cons a l=>
       rw [z] at r2
       unfold Ad at r2
       obtain⟨x,t,e,rx,_⟩:=r2
       cases e
       exact rx
    ·cases ys with
     | cons y ys=>cases c
     | nil=>
      refine q _ _ s2 ?_
      have eq:Ek T=(BY T.ds.length T.ds.length).filter λq=>Bz T q.1 q.2:=rfl
      unfold AK
      rw [<-eq] at r2
      cases z:Ek T with
      | nil=>exact Aa.non
      | cons a l=>rw [z] at r2;have:=r2.len;cases this
 ·exact h.elim
theorem S0:Ay ["row","at","part"] ["row","at","part"] (Aw s_replaced):=AB
theorem S4 (F:Df K mg "replaced" s_replaced ["row","at","part"]) (T:Tx mg)  :Fn P w K mg base 1 "replaced" ["row","at","part"] Fe:=by
 refine F.fn S0 (λvs H Q E h=>?_) (λf cdv A outer s H vs Q E hr h=>?_)
 ·unfold Fe at h;split at h;rfl;exact h.elim
 refine⟨_,(Ao (Ax (As EQ (As EQ (Eb s_tup (cx 0 (by rfl)) HC (CW (cx 1 (by rfl)))) (Bc (Al (cx 2 (by rfl)) (by rfl)))) (Eb s_tup (cx 0 (by rfl)) (CW (As AO (cx 1 (by rfl)) Af)) HC)))),?_⟩
 unfold Fe at h
 split at h
 ·rename_i A n y
  obtain⟨xs,k,rfl,hk,l100,hA,q⟩:=h
  refine⟨(k:Int),rfl,A,xs,rfl,hA,λu1 H1 s1 k1 t ht=>?_⟩
  have n1:=Ab.new (o:= .tup [y]) ht
  rw [SW (by omega)] at k1
  refine⟨u1,t,_,_,rfl,rfl,n1 _ _ k1,Ai,(by rw [List.length_take,List.length_singleton];omega),λu2 H2 s2 k2=>?_⟩
  refine⟨(k:Int)+1,rfl,A,xs,rfl,(s1.trans (n1.trans s2)) _ _ hA,λu3 H3 s3 k3=>?_⟩
  refine⟨u2,u3,_,_,rfl,rfl,s3 _ _ k2,k3,?_,λu4 H4 s4 k4=>?_⟩
  ·have:=Fy xs (some ((k:Int)+1)) none
   rw [List.length_append,List.length_take,List.length_singleton]
   omega
  ·refine q u4 H4 (s1.trans (n1.trans (s2.trans (s3.trans s4)))) ?_
   rw [k4]
   congr 2
   have e:Bw xs (some ((k:Int)+1)) none=xs.drop (k+1):=by
    unfold Bw
    rw [show((k:Int)+1)=((k+1:Nat):Int) by omega,HT.sIx_nat,Nat.min_eq_left (by omega)]
    show(xs.drop (k+1)).take (xs.length-(k+1))=_
    rw [List.take_of_length_le (by rw [List.length_drop];exact Nat.le_refl _)]
   rw [e,List.set_eq_take_append_cons_drop,if_pos hk,List.append_assoc];rfl
 ·exact h.elim
theorem sc_coal_under:Ay ["terms","floor","prices"] ["terms"] (Aw s_coal_under):=AB
abbrev Ez (P:Program) (w:World) (K:PySem.W.Frag) (mg:Str->Option Value) (base:Heap):Prop:=Fn P w K mg base 4 "coal_under" ["terms"] IU
theorem S5 (F:Df K mg "coal_under" s_coal_under ["terms"]) (T:Tx mg) (D_highest_floor:Fn P w K mg base 3 "highest_floor" ["terms"] GN) (D_least_stretch:Fn P w K mg base 2 "least_stretch" ["terms"] GP):Ez P w K mg base:=by
 refine F.fn sc_coal_under (λvs H Q E h=>?_) (λf cdv A outer s H vs Q E hr h=>?_)
 ·unfold IU at h;split at h;rfl;exact h.elim
 refine⟨_,(Ak (A5 (A4 Nu (Aj D_least_stretch (hr.mono (by decide)) rfl (Al (cx 0 (by rfl)) (by rfl)) (by decide) (by rfl) (by rfl)) Dj (A3 _)) (Ao (Ax Dj)) A7) (Ak (A1 (Aj D_highest_floor (hr.mono (by decide)) rfl (Al (cx 0 (by rfl)) (by rfl)) (by decide) (by rfl) (by rfl)) (AC K (n:=2) (Ah (Ag 1 sc_coal_under.nd (by rfl)) (Ah (Ag 2 sc_coal_under.nd (by rfl)) AA (by rfl)) (by rfl)) (by rfl) (by rfl) (by rfl) (by rfl)) (by rfl) (by rfl) (by rfl)) (Ao (Ax (cx 1 (by rfl)))))),?_⟩
 unfold IU at h
 split at h
 ·rename_i v
  obtain⟨p,T,fl,r,q1,q2⟩:=h
  refine⟨p,T,fl.ok,r,λu H1 s1 ru=>?_⟩
  cases z:AK T with
  | none=>
   rw [z] at ru
   have eu:u= .non:=by unfold Kz at ru;unfold Aa at ru;exact ru
   subst eu
   refine⟨rfl,⟨λc=>by simp at c,λ_=>?_⟩⟩
   refine⟨p,T,fl,Aa.ev (Ev.same s1) _ _ r,λy H2 f ps s2 ry hf=>?_⟩
   obtain⟨a,b,rfl,ha,hb⟩:=Aa.tailShape ry
   exact⟨a,_,rfl,Ae.of ha,rfl,_,_,rfl,_,_,rfl,rfl,q2 z f ps H2 hf (s1.trans s2)⟩
  | some s0=>
   rw [z] at ru
   have nu:u≠ .non:=by
    obtain⟨A,eA,_⟩:=Aa.pair ru
    rw [eA];intro e;cases e
   refine⟨rfl,⟨λ_=>q1 (by rw [z];simp) H1 s1,λc=>?_⟩⟩
   simp [nu] at c
 ·exact h.elim
theorem S6:Ay ["row","at","units"] ["row","at","units"] (Aw s_added):=AB
theorem S7 (F:Df K mg "added" s_added ["row","at","units"]) (T:Tx mg) (D_replaced:Fn P w K mg base 1 "replaced" ["row","at","part"] Fe):Fn P w K mg base 2 "added" ["row","at","units"] GQ:=by
 refine F.fn S6 (λvs H Q E h=>?_) (λf cdv A outer s H vs Q E hr h=>?_)
 ·unfold GQ at h;split at h;rfl;exact h.elim
 refine⟨_,(Ao (Ax (Aj D_replaced (hr.mono (by decide)) rfl (AG (cx 0 (by rfl)) (cx 1 (by rfl)) (As AO (AF (AW K (by rfl)) (cx 0 (by rfl)) (cx 1 (by rfl)) (λ_ _=>rfl)) (cx 2 (by rfl))) (by rfl)) (by decide) (by rfl) (by rfl)))),?_⟩
 unfold GQ at h
 split at h
 ·rename_i A n u
  obtain⟨ns,k,rfl,hk,l100,hA,q⟩:=h
  refine⟨A,_,_,.int (ns.getD k 0),rfl,rfl,Ae.of hA,IS hk,ns.map V.int,k,rfl,by rw [List.length_map];exact hk,by rw [List.length_map];exact l100,hA,λB H' s' kB=>q B H' s' ?_⟩
  rw [kB,List.map_set]
 ·exact h.elim
end
end MF
end
section
namespace MF
open PySem PySem.Spec PyProof.Rows L2
variable {H : Hp} {G F : List (List Int)} {p : Addr} {S : SY} {i : Nat}
theorem S8 {α:Type} (n:Nat) (x:α):(List.replicate n [x]).flatten=List.replicate n x:=by
 induction n with
 | zero=>rfl
 | succ n ih=>rw [List.replicate_succ,List.flatten_cons,ih,List.replicate_succ];rfl
def Feed (H:Hp) (G:List (List Int)) (f:V):Prop:=∃A xs,f= .ref A/\xs.length=G.length/\
 ((H A=some (.tup xs)/\∀(i:Nat) r x,G[i]? =some r->xs[i]? =some x->∃a,x= .ref a/\H a=some (.tup (r.map V.int)))\/(H A=some (.lst xs)/\∀(i:Nat) r x,G[i]? =some r->xs[i]? =some x->∃a,x= .ref a/\H a=some (.lst (r.map V.int))))
theorem Feed.same {H':Hp}{f:V} (x:Feed H G f) (s:Ab H H'):Feed H' G f:=by
 obtain⟨A,xs,e,hl,h⟩:=x
 refine⟨A,xs,e,hl,h.elim (λh=> .inl ⟨s _ _ h.1,λi r x hr hx=>?_⟩) λh=> .inr ⟨s _ _ h.1,λi r x hr hx=>?_⟩⟩
 ·obtain⟨a,e,k⟩:=h.2 i r x hr hx;exact⟨a,e,s _ _ k⟩
 ·obtain⟨a,e,k⟩:=h.2 i r x hr hx;exact⟨a,e,s _ _ k⟩
theorem Aa.firing {v:V} (r:Aa p H (FD F) v):∃A xs,v= .ref A/\H A=some (.tup xs)/\Ad p H (F.map Bd) xs:=Aa.shape r
theorem Aa.ofRow {p:Addr}{H:Hp}{r:List Int}{v:V} (h:Aa p H (Bd r) v):∃A,v= .ref A/\H A=some (.tup (r.map V.int)):=by
 obtain⟨A,xs,rfl,hA,rs⟩:=Aa.shape h
 rw [Ad.ints rs] at hA
 exact⟨A,rfl,hA⟩
theorem Feed.of {f:V} (r:Aa p H (FD G) f):Feed H G f:=by
 obtain⟨A,xs,rfl,hA,rs⟩:=Aa.firing r
 have l:=rs.len
 rw [List.length_map] at l
 refine⟨A,xs,rfl,l.symm,.inl ⟨hA,λi r x hr hx=>?_⟩⟩
 obtain⟨r',hr',rr⟩:=Ad.mapGot rs hx
 rw [hr] at hr'
 cases hr'
 exact Aa.ofRow rr
def CT (P:PL) (S:SY) (F:List (List Int)) (k:Nat):List Int:=(List.range k).map λj=>AZ P S F (j+1)
theorem Mj {P:PL}{k:Nat}:CT P S F (k+1)=CT P S F k++[AZ P S F (k+1)]:=by unfold CT;rw [List.range_succ,List.map_append];rfl
theorem IV {P:PL}{k:Nat}:(CT P S F k).length=k:=by unfold CT;simp
theorem GR {P:PL}{r d:Int} (hr:BX F i=r) (hd:Cy P S i=d):(if AZ P S F i+r-d<P.hi then AZ P S F i+r-d else P.hi)=AZ P S F (i+1):=by
 rw [C4]
 unfold A8 CP
 rw [hr,hd]
 split<;>split<;>omega
theorem GS {P:PL} (h:P.lo<=P.hi):AZ P S F (i+1)<P.lo↔A8 P S F i<P.lo:=by
 rw [C4]
 unfold CP
 split<;>omega
def IW (P:PL) (S:SY) (F:List (List Int)):Prop:=∀i,i<S.ex.length->P.lo<=A8 P S F i
def GT:Sp:=λvs H Q _=>match vs with | [.ref m,d,f]=>∃p P S F,P.lo<=P.hi/\S.ex.length<=8/\F.length=S.ex.length/\H m=some (.tup [.int P.lo,.int P.hi,.int P.st])/\Aa p H (Ic P S) d/\Feed H F f/\∀R H' k s,Po P S F k s->Ab H H'->H R=none->H' R=some (.lst ((CT P S F k).map V.int))->Q (.ref R) H' | _=>False
def GU:Sp:=λvs H Q _=>match vs with | [v,u,f]=>∃p P S F,PL.ok P/\SY.ok S P.bs.length/\F.length=S.ex.length/\Aa p H P.d v/\Aa p H S.d u/\Feed H F f/\∀b H',(b=true↔IW P S F)->Ab H H'->Q (.bl b) H' | _=>False
def GV:Sp:=λvs H Q _=>match vs with | [.ref p,.int m,.int h]=>A9 p H/\1<=m/\m<=4/\1<=h/\h<=8/\∀t H' P S v u,PL.ok P->SY.ok S P.bs.length->IW P S (caps P S)->H' t=some (.tup [v,u])->Aa p H' P.d v->Aa p H' S.d u->Ev p H H'->A9 p H'->Q (.ref t) H' | _=>False
theorem CMul.of_bounds {i j:Int} (h0:0<=j) (h1:j<100):CMul i j:= .inr ⟨by omega,by omega⟩
theorem S9 {P:PL} (ok:P.ok) (so:S.ok P.bs.length) (he:P.es=[]) (hx:∀a∈S.ex,a=0) (hF:F=caps P S:=by rfl):IW P S F:=by
 subst hF
 have hd:∀i,i<S.ex.length->Cy P S i=0:=λi hi=>by
  have z:S.ex[i]? =some S.ex[i]:=List.getElem?_eq_getElem hi
  rw [EV (Ig z),he,hx _ (List.getElem_mem hi)];rfl
 have hm:∀i,i<S.ex.length->0<=BX (caps P S) i:=λi hi=>by
  have hg:=ET (P:=P) hi
  rw [EU hg]
  have hb:=(Ei (S:=S) ok _ (List.mem_of_getElem? hg)).1
  have:∀l:List Int,(∀a∈l,0<=a/\a<=9)->0<=l.sum:=λl=>by
   induction l with
   | nil=>intro _;exact Int.le_refl _
   | cons a l ih=>
    intro h
    have h1:=h a List.mem_cons_self
    have h2:=ih λx hx=>h x (List.mem_cons_of_mem _ hx)
    rw [List.sum_cons];omega
  exact this _ hb
 have hl:∀i,i<=S.ex.length->P.lo<=AZ P S (caps P S) i:=λi=>by
  induction i with
  | zero=>intro _;exact ok.ls
  | succ i ih=>
   intro hi
   have h0:=ih (by omega)
   have h1:=hd i (by omega)
   have h2:=hm i (by omega)
   have h3:=ok.ls
   have h4:=ok.sh
   rw [C4]
   unfold A8 CP
   split<;>omega
 intro i hi
 have h0:=hl i (by omega)
 have h1:=hd i hi
 have h2:=hm i hi
 unfold A8
 omega
theorem Ta {l:List Int}{k:Nat}{x:Int} (h:l[k]? =some x):(l.take (k+1)).sum=(l.take k).sum+x:=by rw [Bk h,List.sum_append,List.sum_cons,List.sum_nil];omega
section
variable {P : Program} {w : World} {K : PySem.W.Frag} {mg : Str -> Option Value} {base : Heap}
theorem sc__law_draws:Ay ["_law_plant_here","_law_story_here","_law_found","_law_hour","_law_extra","_law_draw_here","_law_first","_law_every"] ["_law_plant_here","_law_story_here"] (Aw s__law_draws):=AB
abbrev Ff (P:Program) (w:World) (K:PySem.W.Frag) (mg:Str->Option Value) (base:Heap):Prop:=Fn P w K mg base 1 "_law_draws" ["_law_plant_here","_law_story_here"] IR
theorem Tb (F:Df K mg "_law_draws" s__law_draws ["_law_plant_here","_law_story_here"]) (T:Tx mg)  :Ff P w K mg base:=by
 refine F.fn sc__law_draws (λvs H Q E h=>?_) (λf cdv A outer s H vs Q E hr h=>?_)
 ·unfold IR at h;split at h;rfl;exact h.elim
 refine⟨_,(Ak (AH (i:=2) sc__law_draws.nd rfl (AD (by rfl)) (BF Cu) (by rfl) (AE (by rfl))) (Ak (Bp PassesOwn.never rfl (FV P w K rfl T.b_enumerate (Al (AF (AW K (by rfl)) (cx 1 (by rfl)) Af (λ_ _=>rfl)) (by rfl)) (by rfl) (by rfl) (by rfl) (by rfl)) (AC K (n:=2) (Ah (Ag 3 sc__law_draws.nd (by rfl)) (Ah (Ag 4 sc__law_draws.nd (by rfl)) AA (by rfl)) (by rfl)) (by rfl) (by rfl) (by rfl) (by rfl)) (Ak (Bp PassesOwn.never rfl (BW K (AF (AW K (by rfl)) (cx 0 (by rfl)) Af (λ_ _=>rfl)) (by rfl)) (AC K (n:=3) (Ah (Ag 5 sc__law_draws.nd (by rfl)) (Ah (Ag 6 sc__law_draws.nd (by rfl)) (Ah (Ag 7 sc__law_draws.nd (by rfl)) AA (by rfl)) (by rfl)) (by rfl)) (by rfl) (by rfl) (by rfl) (by rfl)) (Ao (AH (i:=4) sc__law_draws.nd rfl (AD (by rfl)) (As AO (cx 4 (by rfl)) (As Dp (cx 5 (by rfl)) (BB HA rfl T.b_int L2.boot_int (Al (D9 (Eh K (by rfl)) (cx 3 (by rfl)) (PY rfl rfl T.b_list rfl T.b_range (AG (cx 6 (by rfl)) Af (cx 7 (by rfl)) (by rfl)) (by rfl) (by rfl) (by rfl)) (by with_unfolding_all rfl)) (by rfl)) (by decide) (by decide) (by rfl) (by rfl)))) (by rfl) (AE (by rfl)))) (by intro _;rfl)) (Ao (BM (CM PySem.F.plainAttrs_list PySem.F.slot_list_append PySem.F.type_list_append CN (cx 2 (by rfl)) (Al (cx 4 (by rfl)) (by rfl)) (by rfl) (by rfl) (by rfl) (by rfl) (by rfl)) (by rfl)))) (by intro _;rfl)) (Ao (Ax (BB (Cw K (by rfl)) rfl T.b_tuple Ce (Al (cx 2 (by rfl)) (by rfl)) (by decide) (by decide) (by rfl) (by rfl)))))),?_⟩
 unfold IR at h
 split at h
 ·rename_i v u
  obtain⟨p,P,S,ok,so,r,ru,q⟩:=h
  obtain⟨A,B,E,xf,rfl,hA,hB,hE,rf⟩:=Aa.story ru
  obtain⟨PA,PB,PE,PM,xb,xe,rfl,pA,pB,rb,pE,re,pM⟩:=Aa.plant r
  have x8:=so.x8
  have e4:=ok.e4
  have le:=re.len
  rw [List.length_map] at le
  intro R hR
  have s0:Ab H (upd H R (.lst [])):=Ab.new hR
  refine⟨A,_,0,.ref B,rfl,rfl,Ae.of (s0 _ _ hA),rfl,B,rfl,⟨_,Ae.of (s0 _ _ hB)⟩,for_enum (xs:=S.ex.map V.int) (λi σ H1=>(∃y3 y4 y5 y6 y7,σ=[some (.ref PA),some (.ref A),some (.ref R),y3,y4,y5,y6,y7])/\Ab H H1/\H1 R=some (.lst (((draws P S).take i).map V.int)))
   ⟨⟨_,_,_,_,_,rfl⟩,s0,Ai⟩ (λi σ H1 h=>Ae.of (h.2.1 _ _ hB)) (λi x σ H1 T hx h hT=>?_) fun σ H1 h=>?_⟩
  ·obtain⟨⟨y3,y4,y5,y6,y7,rfl⟩,s1,hR1⟩:=h
   rw [List.getElem?_map] at hx
   cases z:S.ex[i]? with
   | none=>rw [z] at hx;cases hx
   | some n=>
    rw [z] at hx
    cases hx
    have hi:i<S.ex.length:=(List.getElem?_eq_some_iff.mp z).1
    have nT:=Ab.new (o:= .tup [.int i,.int n]) hT
    have s2:=s1.trans nT
    refine⟨T,_,rfl,Ae.of Ai,rfl,_,_,rfl,_,_,rfl,rfl,?_⟩
    refine⟨PA,_,1,.ref PE,rfl,rfl,Ae.of (s2 _ _ pA),rfl,PE,rfl,⟨xe,Ae.of (s2 _ _ pE)⟩,Nl (xs:=xe) (λk σ H2=>(∃y5 y6 y7,σ=[some (.ref PA),some (.ref A),some (.ref R),some (.int i),some (.int (n+((P.es.map λe=>drawn e i).take k).sum)),y5,y6,y7])/\Ab (upd H1 T (.tup [.int i,.int n])) H2)
     ⟨⟨_,_,_,congrArg (λz=>[some (V.ref PA),some (.ref A),some (.ref R),some (.int i),some (.int z),y5,y6,y7]) (Int.add_zero n).symm⟩,Ab.refl _⟩ (λk σ H2 _ h=>Ae.of (h.2 _ _ (s2 _ _ pE))) (λk x σ H2 hx h=>?_) fun σ H2 h=>?_⟩
    ·obtain⟨⟨y5,y6,y7,rfl⟩,s3⟩:=h
     obtain⟨e,he,rd⟩:=Ad.mapGot re hx
     obtain⟨o1,o2,o3,o4,o5,o6⟩:=ok.e e (List.mem_of_getElem? he)
     obtain⟨a,zs,rfl,ha,rz⟩:=Aa.shape (Aa.ev (Ev.same (s2.trans s3)) _ _ rd)
     obtain⟨w1,w2,w3,rfl,r1,r2,r3⟩:=Ad.three rz
     unfold Aa at r1 r2 r3
     subst r1 r2 r3
     refine⟨a,_,rfl,Ae.of ha,rfl,_,_,rfl,_,_,rfl,_,_,rfl,rfl,?_⟩
     refine⟨_,_,_,rfl,⟨by omega,by omega,by omega,by omega,by omega,by omega⟩,λl hl=>⟨l,_,rfl,.inl (An.of Ai),rfl,PZ,.inr ⟨_,rfl,CMul.of_bounds (by split<;>omega) (by split<;>omega),⟨some (.int e.1),some (.int e.2.1),some (.int e.2.2),?_⟩,s3.trans (Ab.new hl)⟩⟩⟩
     have e1:e.1 *(if (if false=true then !BC (V.int (i:Int)) ((C5 e.2.1 8 e.2.2).map V.int) else BC (V.int (i:Int)) ((C5 e.2.1 8 e.2.2).map V.int))=true then 1 else 0)=drawn e i:=by
      have ei:(if false=true then !BC (V.int (i:Int)) ((C5 e.2.1 8 e.2.2).map V.int) else BC (V.int (i:Int)) ((C5 e.2.1 8 e.2.2).map V.int))=BC (V.int (i:Int)) ((C5 e.2.1 8 e.2.2).map V.int):=rfl
      rw [ei,P0 o5 (by omega)]
      unfold drawn
      by_cases c:(i:Int)<e.2.1\/((i:Int)-e.2.1) % e.2.2≠0
      ·rw [if_pos c,decide_eq_false (λz=>z c),if_neg (by decide),Int.mul_zero]
      ·rw [if_neg c,decide_eq_true c,if_pos rfl,Int.mul_one]
     have e2:n+((P.es.map λe=>drawn e i).take k).sum+drawn e i=n+((P.es.map λe=>drawn e i).take (k+1)).sum:=by
      rw [Ta (x:=drawn e i) (by rw [List.getElem?_map,he];rfl)];omega
     exact congrArg (λz=>[some (V.ref PA),some (.ref A),some (.ref R),some (.int i),some (.int z),some (.int e.1),some (.int e.2.1),some (.int e.2.2)]) ((congrArg (λz=>n+((P.es.map λe=>drawn e i).take k).sum+z) e1).trans e2)
    ·obtain⟨⟨y5,y6,y7,rfl⟩,s3⟩:=h
     rw [List.take_of_length_le (l:=P.es.map λe=>drawn e i) (by rw [List.length_map];omega)]
     have kR:=(nT.trans s3) _ _ hR1
     refine⟨.inl ⟨rfl,_,An.of kR⟩,R,_,_,rfl,rfl,kR,DH (by rw [List.length_map,List.length_take];omega),⟨_,_,_,_,_,rfl⟩,Ab.own (s2.trans s3) hR,?_⟩
     rw [Ai,Bk (Ig z),List.map_append];rfl
  ·obtain⟨⟨y3,y4,y5,y6,y7,rfl⟩,s1,hR1⟩:=h
   refine⟨R,_,rfl,.inl ⟨An.of hR1,λt ht=>q _ _ (s1.trans (Ab.new ht)) (Aa.row ?_)⟩⟩
   rw [Ai,List.take_of_length_le (by rw [BH,List.length_map];exact Nat.le_refl _)]
 ·exact h.elim
theorem sc__law_mains:Ay ["_law_main","_law_draws_here","_law_firing","_law_low","_law_high","_law_here","_law_found","_law_draw_here","_law_row"] ["_law_main","_law_draws_here","_law_firing"] (Aw s__law_mains):=AB
theorem Tc (F:Df K mg "_law_mains" s__law_mains ["_law_main","_law_draws_here","_law_firing"]) (T:Tx mg)  :Fn P w K mg base 1 "_law_mains" ["_law_main","_law_draws_here","_law_firing"] GT:=by
 refine F.fn sc__law_mains (λvs H Q E h=>?_) (λf cdv A outer s H vs Q E hr h=>?_)
 ·unfold GT at h;split at h;rfl;exact h.elim
 refine⟨_,(Ak (A1 (cx 0 (by rfl)) (AC K (n:=3) (Ah (Ag 3 sc__law_mains.nd (by rfl)) (Ah (Ag 4 sc__law_mains.nd (by rfl)) (Ah (Ag 5 sc__law_mains.nd (by rfl)) AA (by rfl)) (by rfl)) (by rfl)) (by rfl) (by rfl) (by rfl) (by rfl)) (by rfl) (by rfl) (by rfl)) (Ak (AH (i:=6) sc__law_mains.nd rfl (AD (by rfl)) (BF Cu) (by rfl) (AE (by rfl))) (Ak (Bp PassesOwn.never rfl (KG (Ia P w K rfl T.b_zip (Aq (cx 1 (by rfl)) (cx 2 (by rfl)) (by rfl)) (by rfl) (by rfl) (by rfl) (by rfl) (by rfl)) (O8 P w K rfl T.b_zip (Aq (cx 1 (by rfl)) (cx 2 (by rfl)) (by rfl)) (by rfl) (by rfl) (by rfl) (by rfl) (by rfl))) (AC K (n:=2) (Ah (Ag 7 sc__law_mains.nd (by rfl)) (Ah (Ag 8 sc__law_mains.nd (by rfl)) AA (by rfl)) (by rfl)) (by rfl) (by rfl) (by rfl) (by rfl)) (Ak (AH (i:=5) sc__law_mains.nd rfl (AD (by rfl)) (AI (Fv rfl) rfl T.b_min boot_min (Aq (cx 4 (by rfl)) (As Bh (As AO (cx 5 (by rfl)) (AI (FZ rfl) rfl T.b_sum boot_sum (Al (cx 8 (by rfl)) (by rfl)) (by decide) (by decide) (by rfl) (by rfl))) (cx 7 (by rfl))) (by rfl)) (by decide) (by decide) (by rfl) (by rfl)) (by rfl) (AE (by rfl))) (Ak (A5 (A4 DU (cx 5 (by rfl)) (cx 3 (by rfl)) (A3 _)) (Ao (Ax (cx 6 (by rfl)))) A7) (Ao (BM (CM PySem.F.plainAttrs_list PySem.F.slot_list_append PySem.F.type_list_append CN (cx 6 (by rfl)) (Al (cx 5 (by rfl)) (by rfl)) (by rfl) (by rfl) (by rfl) (by rfl) (by rfl)) (by rfl))))) (by intro _;rfl)) (Ao (Ax (cx 6 (by rfl))))))),?_⟩
 unfold GT at h
 split at h
 ·rename_i m d f
  obtain⟨p,P,S,F,hlh,x8,fl,hm,rd,fd,q⟩:=h
  refine⟨m,_,rfl,Ae.of hm,rfl,_,_,rfl,_,_,rfl,_,_,rfl,rfl,λR hR=>?_⟩
  have sR:=Ab.new (o:= .lst []) hR
  have hHR:H R=none:=hR
  obtain⟨D,rfl,hD⟩:=Aa.ofRow (r:=draws P S) (Aa.ev (Ev.same sR) _ _ rd)
  have fd2:=fd.same sR
  have kR0:upd H R (.lst []) R=some (.lst []):=Ai
  have sH2:=sR
  generalize upd H R (.lst [])=H2 at *
  have ld:((draws P S).map V.int).length=S.ex.length:=by rw [List.length_map,BH]
  obtain⟨GA,gx,rfl,lg,⟨hG,rows⟩ | ⟨hG,rows⟩⟩:=fd2
  ·refine Or.inl ⟨D,GA,rfl,⟨_,Ae.of hD⟩,⟨_,Ae.of hG⟩,Ij (xs:=(draws P S).map V.int) (ys:=gx) (λi σ H'=>(∃y7 y8,σ=[some (.ref m),some (.ref D),some (.ref GA),some (.int P.lo),some (.int P.hi),some (.int (AZ P S F i)),some (.ref R),y7,y8])/\Ev R H2 H'/\(∀j,j<i->P.lo<=A8 P S F j)/\H' R=some (.lst ((CT P S F i).map V.int))) (by omega)
     ⟨⟨_,_,rfl⟩,Ev.refl,(λj hj=>absurd hj (Nat.not_lt_zero _)),kR0⟩ (λi σ H' h=>⟨Ae.of (h.2.1.tup hD),Ae.of (h.2.1.tup hG)⟩) (λi x y σ H' T hx hy h hT=>?_) fun σ H' h=>?_⟩
   ·obtain⟨⟨y7,y8,rfl⟩,ev,up,hRx⟩:=h
    rw [List.getElem?_map] at hx
    cases z:(draws P S)[i]? with
    | none=>rw [z] at hx;cases hx
    | some d0=>
     rw [z] at hx
     cases hx
     have hi:i<S.ex.length:=by have:=(List.getElem?_eq_some_iff.mp z).1;rw [BH] at this;exact this
     obtain⟨r,hr⟩:∃r,F[i]? =some r:=⟨F[i],by simp⟩
     obtain⟨ra,rfl,hra⟩:=rows i r y hr hy
     have nT:=Ab.new (o:= .tup [.int d0,.ref ra]) hT
     have ev1:Ev R H2 (upd H' T (.tup [.int d0,.ref ra])):=ev.trans (Ev.same nT)
     refine⟨T,_,rfl,Ae.of Ai,rfl,_,_,rfl,_,_,rfl,rfl,ra,r,rfl,.inr (ev1.tup hra),_,_,rfl,⟨λc=>?_,λc=>?_⟩⟩
     ·have c':=of_decide_eq_true c
      have c':(if AZ P S F i+r.sum-d0<P.hi then AZ P S F i+r.sum-d0 else P.hi)<P.lo:=c'
      rw [GR (EU hr) (EV z)] at c'
      exact q R _ i (some ((i:Int),P.lo-A8 P S F i)) ⟨Nat.le_of_lt hi,up,.inr ⟨hi,(GS hlh).mp c',rfl⟩⟩ (Ab.evOwn sH2 hHR ev1) hHR (nT _ _ hRx)
     ·have c':=of_decide_eq_false c
      have c':¬(if AZ P S F i+r.sum-d0<P.hi then AZ P S F i+r.sum-d0 else P.hi)<P.lo:=c'
      have em:=GR (EU hr) (EV z)
      rw [em] at c'
      have kR:=nT _ _ hRx
      refine⟨.inl ⟨rfl,_,An.of kR⟩,R,_,_,rfl,rfl,kR,DH (by rw [List.length_map,IV];omega),⟨some (.int d0),some (.ref ra),congrArg (λz=>[some (V.ref m),some (.ref D),some (.ref GA),some (.int P.lo),some (.int P.hi),some (.int z),some (.ref R),some (.int d0),some (.ref ra)]) em⟩,ev1.trans (Ev.pen kR),λj hj=>?_,?_⟩
      ·by_cases cj:j=i
       ·subst cj
        exact Int.not_lt.mp λw=>c' ((GS hlh).mpr w)
       ·exact up j (by omega)
      ·rw [Ai,Mj,List.map_append]
       exact congrArg (λz=>some (HO.lst ((CT P S F i).map V.int++[V.int z]))) em
   ·obtain⟨⟨y7,y8,rfl⟩,ev,up,hRx⟩:=h
    rw [List.length_map,BH] at up hRx
    exact q R H' S.ex.length none ⟨Nat.le_refl _,up,.inl ⟨rfl,rfl⟩⟩ (Ab.evOwn sH2 hHR ev) hHR hRx
  ·have nG:GA≠R:=λe=>by
    subst e
    obtain⟨A',gx',eA,_,z⟩:=fd
    cases eA
    rcases z with z | z<;>(rw [hHR] at z;cases z.1)
   have nRow:∀(i:Nat) g a,F[i]? =some g->gx[i]? =some (.ref a)->a≠R:=λi g a hg hy e=>by
    subst e
    obtain⟨A',gx',eA,lg2,z⟩:=fd
    cases eA
    rcases z with⟨z1,z2⟩ | ⟨z1,z2⟩
    ·have:=sH2 _ _ z1
     rw [hG] at this;cases this
    ·have:=sH2 _ _ z1
     rw [hG] at this
     cases this
     obtain⟨a',e',k⟩:=z2 i g _ hg hy
     cases e'
     rw [hHR] at k;cases k
   refine Or.inr ⟨D,GA,rfl,⟨_,Ae.of hD⟩,⟨_,An.of hG⟩,Ij (xs:=(draws P S).map V.int) (ys:=gx) (λi σ H'=>(∃y7 y8,σ=[some (.ref m),some (.ref D),some (.ref GA),some (.int P.lo),some (.int P.hi),some (.int (AZ P S F i)),some (.ref R),y7,y8])/\Ev R H2 H'/\(∀j,j<i->P.lo<=A8 P S F j)/\H' R=some (.lst ((CT P S F i).map V.int))) (by omega)
     ⟨⟨_,_,rfl⟩,Ev.refl,(λj hj=>absurd hj (Nat.not_lt_zero _)),kR0⟩ (λi σ H' h=>⟨Ae.of (h.2.1.tup hD),An.of (h.2.1.lst hG nG)⟩) (λi x y σ H' T hx hy h hT=>?_) fun σ H' h=>?_⟩
   ·obtain⟨⟨y7,y8,rfl⟩,ev,up,hRx⟩:=h
    rw [List.getElem?_map] at hx
    cases z:(draws P S)[i]? with
    | none=>rw [z] at hx;cases hx
    | some d0=>
     rw [z] at hx
     cases hx
     have hi:i<S.ex.length:=by have:=(List.getElem?_eq_some_iff.mp z).1;rw [BH] at this;exact this
     obtain⟨r,hr⟩:∃r,F[i]? =some r:=⟨F[i],by simp⟩
     obtain⟨ra,rfl,hra⟩:=rows i r y hr hy
     have nT:=Ab.new (o:= .tup [.int d0,.ref ra]) hT
     have ev1:Ev R H2 (upd H' T (.tup [.int d0,.ref ra])):=ev.trans (Ev.same nT)
     refine⟨T,_,rfl,Ae.of Ai,rfl,_,_,rfl,_,_,rfl,rfl,ra,r,rfl,.inl (ev1.lst hra (nRow i r ra hr hy)),_,_,rfl,⟨λc=>?_,λc=>?_⟩⟩
     ·have c':=of_decide_eq_true c
      have c':(if AZ P S F i+r.sum-d0<P.hi then AZ P S F i+r.sum-d0 else P.hi)<P.lo:=c'
      rw [GR (EU hr) (EV z)] at c'
      exact q R _ i (some ((i:Int),P.lo-A8 P S F i)) ⟨Nat.le_of_lt hi,up,.inr ⟨hi,(GS hlh).mp c',rfl⟩⟩ (Ab.evOwn sH2 hHR ev1) hHR (nT _ _ hRx)
     ·have c':=of_decide_eq_false c
      have c':¬(if AZ P S F i+r.sum-d0<P.hi then AZ P S F i+r.sum-d0 else P.hi)<P.lo:=c'
      have em:=GR (EU hr) (EV z)
      rw [em] at c'
      have kR:=nT _ _ hRx
      refine⟨.inl ⟨rfl,_,An.of kR⟩,R,_,_,rfl,rfl,kR,DH (by rw [List.length_map,IV];omega),⟨some (.int d0),some (.ref ra),congrArg (λz=>[some (V.ref m),some (.ref D),some (.ref GA),some (.int P.lo),some (.int P.hi),some (.int z),some (.ref R),some (.int d0),some (.ref ra)]) em⟩,ev1.trans (Ev.pen kR),λj hj=>?_,?_⟩
      ·by_cases cj:j=i
       ·subst cj
        exact Int.not_lt.mp λw=>c' ((GS hlh).mpr w)
       ·exact up j (by omega)
      ·rw [Ai,Mj,List.map_append]
       exact congrArg (λz=>some (HO.lst ((CT P S F i).map V.int++[V.int z]))) em
   ·obtain⟨⟨y7,y8,rfl⟩,ev,up,hRx⟩:=h
    rw [List.length_map,BH] at up hRx
    exact q R H' S.ex.length none ⟨Nat.le_refl _,up,.inl ⟨rfl,rfl⟩⟩ (Ab.evOwn sH2 hHR ev) hHR hRx
 ·exact h.elim
theorem Td:Ay ["_law_plant_here","_law_story_here","_law_firing"] ["_law_plant_here","_law_story_here","_law_firing"] (Aw s__law_keeps):=AB
theorem Te (F:Df K mg "_law_keeps" s__law_keeps ["_law_plant_here","_law_story_here","_law_firing"]) (T:Tx mg) (D__law_draws:Ff P w K mg base) (D__law_mains:Fn P w K mg base 1 "_law_mains" ["_law_main","_law_draws_here","_law_firing"] GT):Fn P w K mg base 2 "_law_keeps" ["_law_plant_here","_law_story_here","_law_firing"] GU:=by
 refine F.fn Td (λvs H Q E h=>?_) (λf cdv A outer s H vs Q E hr h=>?_)
 ·unfold GU at h;split at h;rfl;exact h.elim
 refine⟨_,(Ao (Ax (D9 DM (AI (BG K (by rfl)) rfl T.b_len PySem.boot_len (Al (Aj D__law_mains (hr.mono (by decide)) rfl (AG (AF (AW K (by rfl)) (cx 0 (by rfl)) Af (λ_ _=>rfl)) (Aj D__law_draws (hr.mono (by decide)) rfl (Aq (cx 0 (by rfl)) (cx 1 (by rfl)) (by rfl)) (by decide) (by rfl) (by rfl)) (cx 2 (by rfl)) (by rfl)) (by decide) (by rfl) (by rfl)) (by rfl)) (by decide) (by decide) (by rfl) (by rfl)) (AI (BG K (by rfl)) rfl T.b_len PySem.boot_len (Al (cx 2 (by rfl)) (by rfl)) (by decide) (by decide) (by rfl) (by rfl)) (A3 _)))),?_⟩
 unfold GU at h
 split at h
 ·rename_i v u f
  obtain⟨p,P,S,F,ok,so,fl,r,ru,fd,q⟩:=h
  have x8:=so.x8
  have hl:P.lo<=P.hi:=Int.le_trans ok.ls ok.sh
  obtain⟨PA,PB,PE,PM,xb,xe,rfl,pA,pB,rb,pE,re,pM⟩:=Aa.plant r
  refine⟨PA,_,2,.ref PM,rfl,rfl,Ae.of pA,rfl,p,P,S,ok,so,r,ru,λd H1 s1 rd=>⟨p,P,S,F,hl,x8,fl,s1 _ _ pM,rd,fd.same s1,λR H2 k s run s2 hR hRx=>?_⟩⟩
  have fd2:=(fd.same (s1.trans s2))
  obtain⟨GA,gx,rfl,lg,fdc⟩:=fd2
  have kg:An K H2 GA gx\/Ae K H2 GA gx:=fdc.elim (λz=> .inr (Ae.of z.1)) λz=> .inl (An.of z.1)
  refine⟨R,_,rfl,.inl (An.of hRx),GA,gx,rfl,kg,rfl,?_⟩
  refine q _ _ ?_ (s1.trans s2)
  rw [List.length_map,IV,lg,fl]
  constructor
  ·intro c i hi
   have e:(k:Int)=(S.ex.length:Int):=by
    have:=of_decide_eq_true c
    injection this
   exact run.up i (by omega)
  ·intro kp
   refine decide_eq_true ?_
   rcases run.fin with⟨_,e⟩ | ⟨e1,e2,_⟩
   ·rw [e]
   ·have:=kp k e1
    omega
 ·exact h.elim
theorem sc__law_pair:Ay ["_law_pen_here","_law_most","_law_hours","_law_turn","_law_plant_here","_law_story_here"] ["_law_pen_here","_law_most","_law_hours"] (Aw s__law_pair):=AB
theorem Tf (F:Df K mg "_law_pair" s__law_pair ["_law_pen_here","_law_most","_law_hours"]) (T:Tx mg) (D__law_caps:Fc P w K mg base) (D__law_keeps:Fn P w K mg base 2 "_law_keeps" ["_law_plant_here","_law_story_here","_law_firing"] GU) (D__law_plant:Fn P w K mg base 2 "_law_plant" ["_law_pen_here","_law_most"] Gy) (D__law_story:Fn P w K mg base 2 "_law_story" ["_law_pen_here","_law_plant_here","_law_most"] GK):Fn P w K mg base 3 "_law_pair" ["_law_pen_here","_law_most","_law_hours"] GV:=by
 refine F.fn sc__law_pair (λvs H Q E h=>?_) (λf cdv A outer s H vs Q E hr h=>?_)
 ·unfold GV at h;split at h;rfl;exact h.elim
 refine⟨_,(Ak (Bp PassesOwn.never rfl (Cq rfl T.b_range (Al Af (by rfl)) (by rfl)) (Ag 3 sc__law_pair.nd (by rfl)) (Ak (AH (i:=4) sc__law_pair.nd rfl (AD (by rfl)) (Aj D__law_plant (hr.mono (by decide)) rfl (Aq (cx 0 (by rfl)) (cx 1 (by rfl)) (by rfl)) (by decide) (by rfl) (by rfl)) (by rfl) (AE (by rfl))) (Ak (AH (i:=5) sc__law_pair.nd rfl (AD (by rfl)) (Aj D__law_story (hr.mono (by decide)) rfl (AG (cx 0 (by rfl)) (cx 4 (by rfl)) (cx 2 (by rfl)) (by rfl)) (by decide) (by rfl) (by rfl)) (by rfl) (AE (by rfl))) (Ao (A5 (Cc (Aj D__law_keeps (hr.mono (by decide)) rfl (AG (cx 4 (by rfl)) (cx 5 (by rfl)) (Aj D__law_caps (hr.mono (by decide)) rfl (Aq (cx 4 (by rfl)) (cx 5 (by rfl)) (by rfl)) (by decide) (by rfl) (by rfl)) (by rfl)) (by decide) (by rfl) (by rfl)) (by intro _;rfl)) (Ao (Ax (Bc (Aq (cx 4 (by rfl)) (cx 5 (by rfl)) (by rfl))))) A7)))) (by intro _;rfl)) (Ao (Ax (Bc (Aq (As EQ (Eb s_tup (cx 4 (by rfl)) HC (CW Af)) (Bc (Aq (Bc Cu) (AF (AW K (by rfl)) (cx 4 (by rfl)) Af (λ_ _=>rfl)) (by rfl)))) (Bc (Aq (As Pr (Bc (Al Af (by rfl))) (AI (BG K (by rfl)) rfl T.b_len PySem.boot_len (Al (AF (AW K (by rfl)) (cx 5 (by rfl)) Af (λ_ _=>rfl)) (by rfl)) (by decide) (by decide) (by rfl) (by rfl))) (AF (AW K (by rfl)) (cx 5 (by rfl)) Af (λ_ _=>rfl)) (by rfl))) (by rfl)))))),?_⟩
 unfold GV at h
 split at h
 ·rename_i p m h
  obtain⟨pn,m1,m4,h1,h8,q⟩:=h
  refine⟨5,rfl,by decide,by decide,Dm (n:=5) (λi σ H'=>(∃x3 x4 x5,σ=[some (.ref p),some (.int m),some (.int h),x3,x4,x5]/\(0<i->∃v u P S,x4=some v/\x5=some u/\PL.ok P/\SY.ok S P.bs.length/\Aa p H' P.d v/\Aa p H' S.d u))/\Ev p H H'/\A9 p H') ⟨⟨_,_,_,rfl,λz=>absurd z (Nat.lt_irrefl _)⟩,Ev.refl,pn⟩ (λi σ H1 hi hP=>?_) fun σ H1 hP=>?_⟩
  ·obtain⟨⟨x3,x4,x5,rfl,_⟩,e1,pn1⟩:=hP
   refine⟨pn1,m1,m4,λv H2 bs es lo hi st gp rv e2 pn2=>?_⟩
   obtain⟨P,ok,eP⟩:=gp.pl
   rw [eP] at rv
   refine⟨pn2,h1,h8,P,ok,rv,λu H3 S so ru e3 pn3=>?_⟩
   have rv3:=Aa.ev e3 _ _ rv
   refine⟨p,P,S,ok,so,rv3,ru,λc H4 s4 rc=>⟨p,P,S,caps P S,ok,so,CO,Aa.ev (Ev.same s4) _ _ rv3,Aa.ev (Ev.same s4) _ _ ru,Feed.of rc,λb H5 hb s5=>⟨λcc=>?_,λcc=>?_⟩⟩⟩
   ·intro t ht
    have n1:=Ab.new (o:= .tup [v,u]) ht
    have s45:=s4.trans (s5.trans n1)
    exact q t _ P S v u ok so (hb.mp cc) Ai (Aa.ev (Ev.same s45) _ _ rv3) (Aa.ev (Ev.same s45) _ _ ru) (e1.trans (e2.trans (e3.trans (Ev.same s45)))) (pn3.same s45)
   ·have s45:=s4.trans s5
    exact⟨⟨_,_,_,rfl,λ_=>⟨v,u,P,S,rfl,rfl,ok,so,Aa.ev (Ev.same s45) _ _ rv3,Aa.ev (Ev.same s45) _ _ ru⟩⟩,e1.trans (e2.trans (e3.trans (Ev.same s45))),pn3.same s45⟩
  ·obtain⟨⟨x3,x4,x5,rfl,hh⟩,e1,pn1⟩:=hP
   obtain⟨v,u,P,S,rfl,rfl,ok,so,rv,ru⟩:=hh (by decide)
   obtain⟨A,B,E,xf,rfl,hA,hB,hE,rf⟩:=Aa.story ru
   obtain⟨PA,PB,PE,PM,xb,xe,rfl,pA,pB,rb,pE,re,pM⟩:=Aa.plant rv
   have x8:=so.x8
   have x1:=so.x1
   refine⟨1,rfl,PA,_,rfl,pA,λu1 H2 s2 k2 z1 hz1=>?_⟩
   have n1:=Ab.new (o:= .tup []) hz1
   refine⟨PA,_,2,.ref PM,rfl,rfl,Ae.of ((s2.trans n1) _ _ pA),rfl,λz2 hz2=>?_⟩
   have n2:=Ab.new (o:= .tup [.ref z1,.ref PM]) hz2
   have s12:=s2.trans (n1.trans n2)
   refine⟨u1,z2,_,_,rfl,rfl,(n1.trans n2) _ _ k2,Ai,(show(1:Nat)+2<=1000 by decide),λu3 H3 s3 k3 z3 hz3=>?_⟩
   have n3:=Ab.new (o:= .tup [.int 0]) hz3
   have s13:=s12.trans (s3.trans n3)
   refine⟨A,_,0,.ref B,rfl,rfl,Ae.of (s13 _ _ hA),rfl,B,_,rfl,.inr (Ae.of (s13 _ _ hB)),z3,_,[.int 0],rfl,rfl,Ai,by simp,(by rw [List.length_map];omega),(by rw [List.length_map];omega),by simp,λu4 H4 s4 k4=>?_⟩
   rw [List.length_map,Int.toNat_natCast,S8] at k4
   have s14:=s13.trans s4
   refine⟨A,_,1,.ref E,rfl,rfl,Ae.of (s14 _ _ hA),rfl,λz5 hz5 t ht=>?_⟩
   have n5:=Ab.new (o:= .tup [.ref u4,.ref E]) hz5
   have n6:=Ab.new (o:= .tup [.ref u3,.ref z5]) ht
   have s16:=s14.trans (n5.trans n6)
   let P':PL:=⟨P.bs,[],P.lo,P.hi,P.st⟩
   let S':SY:=⟨List.replicate S.ex.length 0,S.fs⟩
   have ok':PL.ok P':=⟨ok.b,ok.b1,ok.b4,λ_ z=>(by cases z),Nat.zero_le _,ok.lo0,ok.ls,ok.sh,ok.h4⟩
   have le':S'.ex.length=S.ex.length:=List.length_replicate
   have so':SY.ok S' P'.bs.length:=⟨by rw [le'];exact so.x1,by rw [le'];exact so.x8,λa ha=>by rw [List.eq_of_mem_replicate ha];omega,so.f4,λx hx=>by rw [le'];exact so.f x hx⟩
   have z1k:=((n2.trans (s3.trans (n3.trans (s4.trans (n5.trans n6))))) _ _ (Ai (H:=H2) (a:=z1) (o:= .tup [])))
   refine q t _ P' S' (.ref u3) (.ref z5) ok' so' (S9 ok' so' rfl λa ha=>List.eq_of_mem_replicate ha) Ai ?_ ?_ (e1.trans (Ev.same s16)) (pn1.same s16)
   ·have k3':=(n3.trans (s4.trans (n5.trans n6))) _ _ k3
    refine Aa.tup (xs:=[.ref PB,.ref z1,.ref PM]) k3' (.cons (Aa.tup (s16 _ _ pB) (Ad.ev (Ev.same s16) _ _ rb)) (.cons (Aa.tup z1k .nil) (.cons (Aa.tup (s16 _ _ pM) (.cons Aa.int (.cons Aa.int (.cons Aa.int .nil)))) .nil)))
   ·have k5:=n6 _ _ (Ai (H:=H4) (a:=z5) (o:= .tup [.ref u4,.ref E]))
    refine Aa.tup k5 (.cons (Aa.row ?_) (.cons (Aa.tup (s16 _ _ hE) (Ad.ev (Ev.same s16) _ _ rf)) .nil))
    have:=(n5.trans n6) _ _ k4
    rw [this,List.map_replicate]
 ·exact h.elim
end
end MF
end
section
namespace MF
open PySem PySem.Spec PyProof.Rows L2
theorem GW {p:Addr}{H:Hp}{T:TM}{A C B D M:Addr}{xc:List V} (hA:H A=some (.tup [.ref C,.ref B,.ref D,.ref M])) (hC:H C=some (.tup xc)) (rc:Ad p H (T.cs.map Bd) xc) (hB:H B=some (.tup (T.co.map V.int))) (hD:H D=some (.tup (T.ds.map V.int))) (hM:H M=some (.tup [.int T.lo,.int T.hi,.int T.st])):Aa p H T.d (.ref A):=
 Aa.tup hA (.cons (Aa.tup hC rc) (.cons (Aa.row hB) (.cons (Aa.row hD) (.cons (Aa.tup hM (.cons Aa.int (.cons Aa.int (.cons Aa.int .nil)))) .nil))))
theorem Ml {p:Addr}{H:Hp}{d:PyData}{x:V} (rx:Aa p H d x):∀ {ds:List PyData}{xs:List V} (k:Nat),Ad p H ds xs->Ad p H (ds.set k d) (xs.set k x)
 | [],xs,k,r=>by unfold Ad at r;subst r;exact .nil
 | e::ds,xs,0,r=>by
  unfold Ad at r
  obtain⟨y,t,rfl,ry,rt⟩:=r
  exact .cons rx rt
 | e::ds,xs,k+1,r=>by
  unfold Ad at r
  obtain⟨y,t,rfl,ry,rt⟩:=r
  exact .cons ry (Ml rx k rt)
theorem Mm {T:TM} (f:AL T) {x:Int} (h0:0<=x) (h1:x<=100):AL { T with hi:=x}:=⟨⟨f.ok.l8,f.ok.lc⟩,f.c,f.o,f.o1,f.d,f.l0,h0,f.s0,f.l4,h1,f.s4⟩
theorem Mo {T:TM} (f:AL T) {x:Int} (h0:0<=x) (h1:x<=100):AL { T with lo:=x}:=⟨⟨f.ok.l8,f.ok.lc⟩,f.c,f.o,f.o1,f.d,h0,f.h0,f.s0,h1,f.h4,f.s4⟩
theorem Mp {T:TM} (f:AL T) {x:Int} (h0:0<=x) (h1:x<=100):AL { T with st:=x}:=⟨⟨f.ok.l8,f.ok.lc⟩,f.c,f.o,f.o1,f.d,f.l0,f.h0,h0,f.l4,f.h4,h1⟩
theorem Mq {T:TM} (f:AL T) {k:Nat}{r:List Int} (h:r.length=T.co.length) (hc:∀c∈r,0<=c/\c<=20):AL { T with cs:=T.cs.set k r}:=by
 refine⟨⟨f.ok.l8,by show(T.cs.set k r).length=T.ds.length;rw [List.length_set];exact f.ok.lc⟩,λy hy=>?_,f.o,f.o1,f.d,f.l0,f.h0,f.s0,f.l4,f.h4,f.s4⟩
 rcases List.mem_or_eq_of_mem_set hy with hy | rfl
 ·exact f.c y hy
 ·exact⟨h,hc⟩
theorem EA {T U:TM} (hd:T.ds=U.ds) (hc:T.cs=U.cs) (s:T.st<=U.st) (h:T.hi<=U.hi) (lo:U.lo<=T.lo) (no:AK T=none):AK U=none:=
 Iv (by rw [hd]) (λi=>by rw [hd];exact Int.le_refl _) (by rw [hc]) (λi=>by rw [hc];exact Int.le_refl _) s h lo no
theorem Mr {r:List Int}:∀ {k:Nat}{x:Int},k<r.length->(r.set k x).sum=r.sum+x-r.getD k 0:=by
 induction r with
 | nil=>intro k x h;simp at h
 | cons a r ih=>
  intro k x h
  cases k with
  | zero=>show x+r.sum=a+r.sum+x-a;omega
  | succ k=>
   have:=ih (k:=k) (x:=x) (by simpa using h)
   show a+(r.set k x).sum=a+r.sum+x-r.getD k 0
   omega
structure Two (p:Addr) (H:Hp) (P:PL) (S:SY) (v u:V):Prop where
 ok:PL.ok P
 so:SY.ok S P.bs.length
 r:Aa p H P.d v
 ru:Aa p H S.d u
 no:AK (terms P S)=none
def Un (T:TM) (k:Nat) (u:Int):TM:= { T with ds:=T.ds.set k (T.ds.getD k 0+u)}
def D6 (T U:TM) (d:Int):Prop:=∃c qs f ps,CS T c qs/\CS U f ps/\d=c-f
def Bt (T:TM) (j k:Nat):TM:= { T with cs:=T.cs.set k ((T.cs.getD k []).set j ((T.cs.getD k []).getD j 0+1))}
def GX:Sp:=λvs H Q _=>match vs with | [u,.int h]=>∃p S,∃n k:Nat,SY.ok S n/\Aa p H S.d u/\h=(k:Int)/\k<S.ex.length/\∀H',Ab H H'->Q .non H' | _=>False
def GY:Sp:=λvs H Q _=>match vs with | [v,.int b]=>∃p P,∃k:Nat,PL.ok P/\Aa p H P.d v/\b=(k:Int)/\k<P.bs.length/\∀H',Ab H H'->Q .non H' | _=>False
def IY:Sp:=λvs H Q _=>match vs with | [v]=>∃p T,AL T/\Aa p H T.d v/\AK T=none/\∀f ps H',CS T f ps->Ab H H'->Q (.int f) H' | _=>False
def GZ:Sp:=λvs H Q _=>match vs with | [v,u]=>∃p P S,Two p H P S v u/\∀d H',AK { terms P S with hi:=P.hi+1}=none->D6 (terms P S) { terms P S with hi:=P.hi+1} d->Ab H H'->Q (.int d) H' | _=>False
def G5:Sp:=λvs H Q _=>match vs with | [v,u]=>∃p P S,Two p H P S v u/\∀x H',((P.lo=0/\x= .non)\/(P.lo≠0/\AK { terms P S with lo:=P.lo-1}=none/\∃d,D6 (terms P S) { terms P S with lo:=P.lo-1} d/\x= .int d))->Ab H H'->Q x H' | _=>False
def G6:Sp:=λvs H Q _=>match vs with | [v,u]=>∃p P S,Two p H P S v u/\∀x H',((P.st=P.hi/\x= .non)\/(P.st≠P.hi/\AK { terms P S with st:=P.st+1}=none/\∃d,D6 (terms P S) { terms P S with st:=P.st+1} d/\x= .int d))->Ab H H'->Q x H' | _=>False
def G7:Sp:=λvs H Q _=>match vs with | [v,u,.int b,.int h]=>∃p P S,∃j k:Nat,Two p H P S v u/\b=(j:Int)/\j<P.bs.length/\h=(k:Int)/\k<S.ex.length/\∀d H',AK (Bt (terms P S) j k)=none->D6 (terms P S) (Bt (terms P S) j k) d->Ab H H'->Q (.int d) H' | _=>False
section
variable {P : Program} {w : World} {K : PySem.W.Frag} {mg : Str -> Option Value} {base : Heap}
theorem Tg:Ay ["story","hour"] ["story","hour"] (Aw s_need_hour):=AB
theorem Th (F:Df K mg "need_hour" s_need_hour ["story","hour"]) (T:Tx mg) (D_is_whole_from:DE P w K mg base):Fn P w K mg base 3 "need_hour" ["story","hour"] GX:=by
 refine F.fn Tg (λvs H Q E h=>?_) (λf cdv A outer s H vs Q E hr h=>?_)
 ·unfold GX at h;split at h;rfl;exact h.elim
 refine⟨_,(@Ao _ _ _ (@A5 _ _ _ _ _ _ _ _ (@CF _ _ _ _ (@Cc _ _ _ (@Aj _ _ _ _ _ _ _ _ _ _ D_is_whole_from (hr.mono (by decide)) rfl (@AG _ _ _ _ _ _ _ (@cx _ 1 _ _ (by rfl)) (@Af _ _ _ _) (@As _ _ _ _ _ _ _ _ (@Bh _) (@AI _ _ _ _ _ _ _ _ _ (@BG _ K (by rfl)) rfl T.b_len PySem.boot_len (@Al _ _ _ (@AF _ _ _ _ _ _ _ (@AW _ K (by rfl)) (@cx _ 0 _ _ (by rfl)) (@Af _ _ _ _) (λ_ _=>rfl)) (by rfl)) (by decide) (by decide) (by rfl) (by rfl)) (@Af _ _ _ _)) (by rfl)) (by decide) (by rfl) (by rfl)) (by intro _;rfl))) (@Ao _ _ _ (@EE _ _)) (@A7 _))),?_⟩
 unfold GX at h
 split at h
 ·rename_i u h'
  obtain⟨p,S,n,k,so,ru,rfl,hk,q⟩:=h
  obtain⟨A,B,E,xf,rfl,hA,hB,hE,rf⟩:=Aa.story ru
  refine⟨A,_,0,.ref B,rfl,rfl,Ae.of hA,rfl,B,_,rfl,.inr (Ae.of hB),p,.int (k:Int),Aa.int,λb hb=>?_⟩
  have e:b=true:=by rw [hb,List.length_map];exact B0 (by omega) (by omega)
  subst e
  exact⟨λc=>(by cases c),λ_=>q _ (Ab.refl _)⟩
 ·exact h.elim
theorem Ti:Ay ["plant","boiler"] ["plant","boiler"] (Aw s_need_boiler):=AB
theorem Tj (F:Df K mg "need_boiler" s_need_boiler ["plant","boiler"]) (T:Tx mg) (D_is_whole_from:DE P w K mg base):Fn P w K mg base 3 "need_boiler" ["plant","boiler"] GY:=by
 refine F.fn Ti (λvs H Q E h=>?_) (λf cdv A outer s H vs Q E hr h=>?_)
 ·unfold GY at h;split at h;rfl;exact h.elim
 refine⟨_,(@Ao _ _ _ (@A5 _ _ _ _ _ _ _ _ (@CF _ _ _ _ (@Cc _ _ _ (@Aj _ _ _ _ _ _ _ _ _ _ D_is_whole_from (hr.mono (by decide)) rfl (@AG _ _ _ _ _ _ _ (@cx _ 1 _ _ (by rfl)) (@Af _ _ _ _) (@As _ _ _ _ _ _ _ _ (@Bh _) (@AI _ _ _ _ _ _ _ _ _ (@BG _ K (by rfl)) rfl T.b_len PySem.boot_len (@Al _ _ _ (@AF _ _ _ _ _ _ _ (@AW _ K (by rfl)) (@cx _ 0 _ _ (by rfl)) (@Af _ _ _ _) (λ_ _=>rfl)) (by rfl)) (by decide) (by decide) (by rfl) (by rfl)) (@Af _ _ _ _)) (by rfl)) (by decide) (by rfl) (by rfl)) (by intro _;rfl))) (@Ao _ _ _ (@EE _ _)) (@A7 _))),?_⟩
 unfold GY at h
 split at h
 ·rename_i v b'
  obtain⟨p,P,k,ok,r,rfl,hk,q⟩:=h
  obtain⟨PA,PB,PE,PM,xb,xe,rfl,pA,pB,rb,pE,re,pM⟩:=Aa.plant r
  have lb:=rb.len
  rw [List.length_map] at lb
  refine⟨PA,_,0,.ref PB,rfl,rfl,Ae.of pA,rfl,PB,_,rfl,.inr (Ae.of pB),p,.int (k:Int),Aa.int,λb hb=>?_⟩
  have e:b=true:=by rw [hb];exact B0 (by omega) (by omega)
  subst e
  exact⟨λc=>(by cases c),λ_=>q _ (Ab.refl _)⟩
 ·exact h.elim
theorem sc_coal_or_refuse:Ay ["terms","coal"] ["terms"] (Aw s_coal_or_refuse):=AB
abbrev Fg (P:Program) (w:World) (K:PySem.W.Frag) (mg:Str->Option Value) (base:Heap):Prop:=Fn P w K mg base 5 "coal_or_refuse" ["terms"] IY
theorem Tk (F:Df K mg "coal_or_refuse" s_coal_or_refuse ["terms"]) (T:Tx mg) (D_coal_under:Ez P w K mg base):Fg P w K mg base:=by
 refine F.fn sc_coal_or_refuse (λvs H Q E h=>?_) (λf cdv A outer s H vs Q E hr h=>?_)
 ·unfold IY at h;split at h;rfl;exact h.elim
 refine⟨_,(@Ak _ _ _ _ _ (@AH _ _ (1) _ _ _ _ sc_coal_or_refuse.nd rfl (AD (by rfl)) (@Aj _ _ _ _ _ _ _ _ _ _ D_coal_under (hr.mono (by decide)) rfl (@Al _ _ _ (@cx _ 0 _ _ (by rfl)) (by rfl)) (by decide) (by rfl) (by rfl)) (by rfl) (AE (by rfl))) (@Ak _ _ _ _ _ (@A5 _ _ _ _ _ _ _ _ (@A4 _ _ _ _ _ _ _ _ (@Nt _) (@cx _ 1 _ _ (by rfl)) (@Dj _ _ _) (A3 _)) (@Ao _ _ _ (@EE _ _)) (@A7 _)) (@Ao _ _ _ (@Ax _ _ _ _ (@cx _ 1 _ _ (by rfl)))))),?_⟩
 unfold IY at h
 split at h
 ·rename_i v
  obtain⟨p,T,fl,r,no,q⟩:=h
  refine⟨p,T,fl,r,λn=>absurd no n,λ_ f ps H1 hf s1=>⟨rfl,⟨λc=>by simp at c,λ_=>q f ps _ hf s1⟩⟩⟩
 ·exact h.elim
theorem sc_wider:Ay ["plant","story","terms","coal","caps","coals","draws","low","high","start"] ["plant","story"] (Aw s_wider):=AB
theorem Tl (F:Df K mg "wider" s_wider ["plant","story"]) (T:Tx mg) (D_coal_or_refuse:Fg P w K mg base) (D_coal_under:Ez P w K mg base) (D_terms_of:Fd P w K mg base):Fn P w K mg base 11 "wider" ["plant","story"] GZ:=by
 refine F.fn sc_wider (λvs H Q E h=>?_) (λf cdv A outer s H vs Q E hr h=>?_)
 ·unfold GZ at h;split at h;rfl;exact h.elim
 refine⟨_,(@Ak _ _ _ _ _ (@AH _ _ (2) _ _ _ _ sc_wider.nd rfl (AD (by rfl)) (@Aj _ _ _ _ _ _ _ _ _ _ D_terms_of (hr.mono (by decide)) rfl (@Aq _ _ _ _ _ (@cx _ 0 _ _ (by rfl)) (@cx _ 1 _ _ (by rfl)) (by rfl)) (by decide) (by rfl) (by rfl)) (by rfl) (AE (by rfl))) (@Ak _ _ _ _ _ (@AH _ _ (3) _ _ _ _ sc_wider.nd rfl (AD (by rfl)) (@Aj _ _ _ _ _ _ _ _ _ _ D_coal_or_refuse (hr.mono (by decide)) rfl (@Al _ _ _ (@cx _ 2 _ _ (by rfl)) (by rfl)) (by decide) (by rfl) (by rfl)) (by rfl) (AE (by rfl))) (@Ak _ _ _ _ _ (@A1 _ _ _ _ _ _ (@cx _ 2 _ _ (by rfl)) (@AC _ K _ _ _ (4) _ (@Ah _ _ _ _ _ (@Ag _ _ _ 4 sc_wider.nd (by rfl)) (@Ah _ _ _ _ _ (@Ag _ _ _ 5 sc_wider.nd (by rfl)) (@Ah _ _ _ _ _ (@Ag _ _ _ 6 sc_wider.nd (by rfl)) (@Ah _ _ _ _ _ (@AC _ K _ _ _ (3) _ (@Ah _ _ _ _ _ (@Ag _ _ _ 7 sc_wider.nd (by rfl)) (@Ah _ _ _ _ _ (@Ag _ _ _ 8 sc_wider.nd (by rfl)) (@Ah _ _ _ _ _ (@Ag _ _ _ 9 sc_wider.nd (by rfl)) (@AA _) (by rfl)) (by rfl)) (by rfl)) (by rfl) (by rfl) (by rfl) (by rfl)) (@AA _) (by rfl)) (by rfl)) (by rfl)) (by rfl)) (by rfl) (by rfl) (by rfl) (by rfl)) (by rfl) (by rfl) (by rfl)) (@Ao _ _ _ (@Ax _ _ _ _ (@As _ _ _ _ _ _ _ _ (@Bh _) (@cx _ 3 _ _ (by rfl)) (@Aj _ _ _ _ _ _ _ _ _ _ D_coal_under (hr.mono (by decide)) rfl (@Al _ _ _ (@Bc _ _ _ _ _ (@BI _ _ _ _ _ _ _ _ _ (@cx _ 4 _ _ (by rfl)) (@cx _ 5 _ _ (by rfl)) (@cx _ 6 _ _ (by rfl)) (@Bc _ _ _ _ _ (@AG _ _ _ _ _ _ _ (@cx _ 7 _ _ (by rfl)) (@As _ _ _ _ _ _ _ _ (@AO _) (@cx _ 8 _ _ (by rfl)) (@Af _ _ _ _)) (@cx _ 9 _ _ (by rfl)) (by rfl))) (by rfl))) (by rfl)) (by decide) (by rfl) (by rfl)))))))),?_⟩
 unfold GZ at h
 split at h
 ·rename_i v u
  obtain⟨p,P,S,tw,q⟩:=h
  have ok:=tw.ok
  have so:=tw.so
  have fl:=C8 ok so
  have yes:=tw.no
  have hp0:=ok.lo0
  have hp1:=ok.ls
  have hp2:=ok.sh
  have hp3:=ok.h4
  refine⟨p,P,S,ok,so,tw.r,tw.ru,λtv H1 s1 rt=>?_⟩
  refine⟨p,terms P S,fl,rt,yes,λc qs H2 hf s2=>?_⟩
  have sA:=s1.trans s2
  obtain⟨A,C,B,D,M,xc,rfl,hA,hC,rc,hB,hD,hM⟩:=Aa.terms (Aa.ev (Ev.same s2) _ _ rt)
  refine⟨A,_,rfl,Ae.of hA,rfl,_,_,rfl,_,_,rfl,_,_,rfl,_,_,rfl,M,_,rfl,Ae.of hM,rfl,_,_,rfl,_,_,rfl,_,_,rfl,rfl,rfl,?_⟩
  refine λt1 ht1 t2 ht2=>?_
  have n1:=Ab.new (o:= .tup [.int (P.lo),.int (P.hi+1),.int (P.st)]) ht1
  have n2:=Ab.new (o:= .tup [.ref C,.ref B,.ref D,.ref t1]) ht2
  have n12:=n1.trans n2
  refine⟨p,{ terms P S with hi:=P.hi+1},Mm fl (by omega) (by omega),GW Ai (n12 _ _ hC) (Ad.ev (Ev.same n12) _ _ rc) (n12 _ _ hB) (n12 _ _ hD) (n2 _ _ Ai),λno=>absurd (EA (T:=terms P S) (U:= { terms P S with hi:=P.hi+1}) rfl rfl (Int.le_refl _) (show P.hi<=P.hi+1 by omega) (Int.le_refl _) yes) no,λno' f2 ps H3 hf2 s3=>q _ _ no' ⟨_,_,f2,ps,hf,hf2,rfl⟩ (sA.trans (n12.trans s3))⟩
 ·exact h.elim
theorem sc_lower:Ay ["plant","story","terms","coal","caps","coals","draws","low","high","start"] ["plant","story"] (Aw s_lower):=AB
theorem Tm (F:Df K mg "lower" s_lower ["plant","story"]) (T:Tx mg) (D_coal_or_refuse:Fg P w K mg base) (D_coal_under:Ez P w K mg base) (D_terms_of:Fd P w K mg base):Fn P w K mg base 11 "lower" ["plant","story"] G5:=by
 refine F.fn sc_lower (λvs H Q E h=>?_) (λf cdv A outer s H vs Q E hr h=>?_)
 ·unfold G5 at h;split at h;rfl;exact h.elim
 refine⟨_,(@Ak _ _ _ _ _ (@AH _ _ (2) _ _ _ _ sc_lower.nd rfl (AD (by rfl)) (@Aj _ _ _ _ _ _ _ _ _ _ D_terms_of (hr.mono (by decide)) rfl (@Aq _ _ _ _ _ (@cx _ 0 _ _ (by rfl)) (@cx _ 1 _ _ (by rfl)) (by rfl)) (by decide) (by rfl) (by rfl)) (by rfl) (AE (by rfl))) (@Ak _ _ _ _ _ (@AH _ _ (3) _ _ _ _ sc_lower.nd rfl (AD (by rfl)) (@Aj _ _ _ _ _ _ _ _ _ _ D_coal_or_refuse (hr.mono (by decide)) rfl (@Al _ _ _ (@cx _ 2 _ _ (by rfl)) (by rfl)) (by decide) (by rfl) (by rfl)) (by rfl) (AE (by rfl))) (@Ak _ _ _ _ _ (@A1 _ _ _ _ _ _ (@cx _ 2 _ _ (by rfl)) (@AC _ K _ _ _ (4) _ (@Ah _ _ _ _ _ (@Ag _ _ _ 4 sc_lower.nd (by rfl)) (@Ah _ _ _ _ _ (@Ag _ _ _ 5 sc_lower.nd (by rfl)) (@Ah _ _ _ _ _ (@Ag _ _ _ 6 sc_lower.nd (by rfl)) (@Ah _ _ _ _ _ (@AC _ K _ _ _ (3) _ (@Ah _ _ _ _ _ (@Ag _ _ _ 7 sc_lower.nd (by rfl)) (@Ah _ _ _ _ _ (@Ag _ _ _ 8 sc_lower.nd (by rfl)) (@Ah _ _ _ _ _ (@Ag _ _ _ 9 sc_lower.nd (by rfl)) (@AA _) (by rfl)) (by rfl)) (by rfl)) (by rfl) (by rfl) (by rfl) (by rfl)) (@AA _) (by rfl)) (by rfl)) (by rfl)) (by rfl)) (by rfl) (by rfl) (by rfl) (by rfl)) (by rfl) (by rfl) (by rfl)) (@Ak _ _ _ _ _ (@A5 _ _ _ _ _ _ _ _ (@A4 _ _ _ _ _ _ _ _ (@DM _) (@cx _ 7 _ _ (by rfl)) (@Af _ _ _ _) (A3 _)) (@Ao _ _ _ (@Ax _ _ _ _ (@Dj _ _ _))) (@A7 _)) (@Ao _ _ _ (@Ax _ _ _ _ (@As _ _ _ _ _ _ _ _ (@Bh _) (@cx _ 3 _ _ (by rfl)) (@Aj _ _ _ _ _ _ _ _ _ _ D_coal_under (hr.mono (by decide)) rfl (@Al _ _ _ (@Bc _ _ _ _ _ (@BI _ _ _ _ _ _ _ _ _ (@cx _ 4 _ _ (by rfl)) (@cx _ 5 _ _ (by rfl)) (@cx _ 6 _ _ (by rfl)) (@Bc _ _ _ _ _ (@AG _ _ _ _ _ _ _ (@As _ _ _ _ _ _ _ _ (@Bh _) (@cx _ 7 _ _ (by rfl)) (@Af _ _ _ _)) (@cx _ 8 _ _ (by rfl)) (@cx _ 9 _ _ (by rfl)) (by rfl))) (by rfl))) (by rfl)) (by decide) (by rfl) (by rfl))))))))),?_⟩
 unfold G5 at h
 split at h
 ·rename_i v u
  obtain⟨p,P,S,tw,q⟩:=h
  have ok:=tw.ok
  have so:=tw.so
  have fl:=C8 ok so
  have yes:=tw.no
  have hp0:=ok.lo0
  have hp1:=ok.ls
  have hp2:=ok.sh
  have hp3:=ok.h4
  refine⟨p,P,S,ok,so,tw.r,tw.ru,λtv H1 s1 rt=>?_⟩
  refine⟨p,terms P S,fl,rt,yes,λc qs H2 hf s2=>?_⟩
  have sA:=s1.trans s2
  obtain⟨A,C,B,D,M,xc,rfl,hA,hC,rc,hB,hD,hM⟩:=Aa.terms (Aa.ev (Ev.same s2) _ _ rt)
  refine⟨A,_,rfl,Ae.of hA,rfl,_,_,rfl,_,_,rfl,_,_,rfl,_,_,rfl,M,_,rfl,Ae.of hM,rfl,_,_,rfl,_,_,rfl,_,_,rfl,rfl,rfl,?_⟩
  refine⟨rfl,⟨λc=>q _ _ (.inl ⟨by rw [Ca] at c;exact of_decide_eq_true c,rfl⟩) sA,λc=>?_⟩⟩
  have c':P.lo≠0:=λz=>by
   rw [Ca] at c
   rw [show(terms P S).lo=0 from z] at c;simp at c
  refine λt1 ht1 t2 ht2=>?_
  have n1:=Ab.new (o:= .tup [.int (P.lo-1),.int (P.hi),.int (P.st)]) ht1
  have n2:=Ab.new (o:= .tup [.ref C,.ref B,.ref D,.ref t1]) ht2
  have n12:=n1.trans n2
  refine⟨p,{ terms P S with lo:=P.lo-1},Mo fl (by omega) (by omega),GW Ai (n12 _ _ hC) (Ad.ev (Ev.same n12) _ _ rc) (n12 _ _ hB) (n12 _ _ hD) (n2 _ _ Ai),λno=>absurd (EA (T:=terms P S) (U:= { terms P S with lo:=P.lo-1}) rfl rfl (Int.le_refl _) (Int.le_refl _) (show P.lo-1<=P.lo by omega) yes) no,λno' f2 ps H3 hf2 s3=>q _ _ (.inr ⟨c',no',_,⟨_,_,f2,ps,hf,hf2,rfl⟩,rfl⟩) (sA.trans (n12.trans s3))⟩
 ·exact h.elim
theorem sc_fuller:Ay ["plant","story","terms","coal","caps","coals","draws","low","high","start"] ["plant","story"] (Aw s_fuller):=AB
theorem Tn (F:Df K mg "fuller" s_fuller ["plant","story"]) (T:Tx mg) (D_coal_or_refuse:Fg P w K mg base) (D_coal_under:Ez P w K mg base) (D_terms_of:Fd P w K mg base):Fn P w K mg base 11 "fuller" ["plant","story"] G6:=by
 refine F.fn sc_fuller (λvs H Q E h=>?_) (λf cdv A outer s H vs Q E hr h=>?_)
 ·unfold G6 at h;split at h;rfl;exact h.elim
 refine⟨_,(@Ak _ _ _ _ _ (@AH _ _ (2) _ _ _ _ sc_fuller.nd rfl (AD (by rfl)) (@Aj _ _ _ _ _ _ _ _ _ _ D_terms_of (hr.mono (by decide)) rfl (@Aq _ _ _ _ _ (@cx _ 0 _ _ (by rfl)) (@cx _ 1 _ _ (by rfl)) (by rfl)) (by decide) (by rfl) (by rfl)) (by rfl) (AE (by rfl))) (@Ak _ _ _ _ _ (@AH _ _ (3) _ _ _ _ sc_fuller.nd rfl (AD (by rfl)) (@Aj _ _ _ _ _ _ _ _ _ _ D_coal_or_refuse (hr.mono (by decide)) rfl (@Al _ _ _ (@cx _ 2 _ _ (by rfl)) (by rfl)) (by decide) (by rfl) (by rfl)) (by rfl) (AE (by rfl))) (@Ak _ _ _ _ _ (@A1 _ _ _ _ _ _ (@cx _ 2 _ _ (by rfl)) (@AC _ K _ _ _ (4) _ (@Ah _ _ _ _ _ (@Ag _ _ _ 4 sc_fuller.nd (by rfl)) (@Ah _ _ _ _ _ (@Ag _ _ _ 5 sc_fuller.nd (by rfl)) (@Ah _ _ _ _ _ (@Ag _ _ _ 6 sc_fuller.nd (by rfl)) (@Ah _ _ _ _ _ (@AC _ K _ _ _ (3) _ (@Ah _ _ _ _ _ (@Ag _ _ _ 7 sc_fuller.nd (by rfl)) (@Ah _ _ _ _ _ (@Ag _ _ _ 8 sc_fuller.nd (by rfl)) (@Ah _ _ _ _ _ (@Ag _ _ _ 9 sc_fuller.nd (by rfl)) (@AA _) (by rfl)) (by rfl)) (by rfl)) (by rfl) (by rfl) (by rfl) (by rfl)) (@AA _) (by rfl)) (by rfl)) (by rfl)) (by rfl)) (by rfl) (by rfl) (by rfl) (by rfl)) (by rfl) (by rfl) (by rfl)) (@Ak _ _ _ _ _ (@A5 _ _ _ _ _ _ _ _ (@A4 _ _ _ _ _ _ _ _ (@DM _) (@cx _ 9 _ _ (by rfl)) (@cx _ 8 _ _ (by rfl)) (A3 _)) (@Ao _ _ _ (@Ax _ _ _ _ (@Dj _ _ _))) (@A7 _)) (@Ao _ _ _ (@Ax _ _ _ _ (@As _ _ _ _ _ _ _ _ (@Bh _) (@cx _ 3 _ _ (by rfl)) (@Aj _ _ _ _ _ _ _ _ _ _ D_coal_under (hr.mono (by decide)) rfl (@Al _ _ _ (@Bc _ _ _ _ _ (@BI _ _ _ _ _ _ _ _ _ (@cx _ 4 _ _ (by rfl)) (@cx _ 5 _ _ (by rfl)) (@cx _ 6 _ _ (by rfl)) (@Bc _ _ _ _ _ (@AG _ _ _ _ _ _ _ (@cx _ 7 _ _ (by rfl)) (@cx _ 8 _ _ (by rfl)) (@As _ _ _ _ _ _ _ _ (@AO _) (@cx _ 9 _ _ (by rfl)) (@Af _ _ _ _)) (by rfl))) (by rfl))) (by rfl)) (by decide) (by rfl) (by rfl))))))))),?_⟩
 unfold G6 at h
 split at h
 ·rename_i v u
  obtain⟨p,P,S,tw,q⟩:=h
  have ok:=tw.ok
  have so:=tw.so
  have fl:=C8 ok so
  have yes:=tw.no
  have hp0:=ok.lo0
  have hp1:=ok.ls
  have hp2:=ok.sh
  have hp3:=ok.h4
  refine⟨p,P,S,ok,so,tw.r,tw.ru,λtv H1 s1 rt=>?_⟩
  refine⟨p,terms P S,fl,rt,yes,λc qs H2 hf s2=>?_⟩
  have sA:=s1.trans s2
  obtain⟨A,C,B,D,M,xc,rfl,hA,hC,rc,hB,hD,hM⟩:=Aa.terms (Aa.ev (Ev.same s2) _ _ rt)
  refine⟨A,_,rfl,Ae.of hA,rfl,_,_,rfl,_,_,rfl,_,_,rfl,_,_,rfl,M,_,rfl,Ae.of hM,rfl,_,_,rfl,_,_,rfl,_,_,rfl,rfl,rfl,?_⟩
  refine⟨rfl,⟨λc=>q _ _ (.inl ⟨by rw [Ca] at c;exact of_decide_eq_true c,rfl⟩) sA,λc=>?_⟩⟩
  have c':P.st≠P.hi:=by rw [Ca] at c;exact of_decide_eq_false c
  refine λt1 ht1 t2 ht2=>?_
  have n1:=Ab.new (o:= .tup [.int (P.lo),.int (P.hi),.int (P.st+1)]) ht1
  have n2:=Ab.new (o:= .tup [.ref C,.ref B,.ref D,.ref t1]) ht2
  have n12:=n1.trans n2
  refine⟨p,{ terms P S with st:=P.st+1},Mp fl (by omega) (by omega),GW Ai (n12 _ _ hC) (Ad.ev (Ev.same n12) _ _ rc) (n12 _ _ hB) (n12 _ _ hD) (n2 _ _ Ai),λno=>absurd (EA (T:=terms P S) (U:= { terms P S with st:=P.st+1}) rfl rfl (show P.st<=P.st+1 by omega) (Int.le_refl _) (Int.le_refl _) yes) no,λno' f2 ps H3 hf2 s3=>q _ _ (.inr ⟨c',no',_,⟨_,_,f2,ps,hf,hf2,rfl⟩,rfl⟩) (sA.trans (n12.trans s3))⟩
 ·exact h.elim
theorem sc_better:Ay ["plant","story","boiler","hour","terms","coal","caps","coals","draws","main","grown"] ["plant","story","boiler","hour"] (Aw s_better):=AB
theorem To (F:Df K mg "better" s_better ["plant","story","boiler","hour"]) (T:Tx mg) (D_added:Fn P w K mg base 2 "added" ["row","at","units"] GQ) (D_coal_or_refuse:Fg P w K mg base) (D_coal_under:Ez P w K mg base) (D_need_boiler:Fn P w K mg base 3 "need_boiler" ["plant","boiler"] GY) (D_need_hour:Fn P w K mg base 3 "need_hour" ["story","hour"] GX) (D_replaced:Fn P w K mg base 1 "replaced" ["row","at","part"] Fe) (D_terms_of:Fd P w K mg base):Fn P w K mg base 11 "better" ["plant","story","boiler","hour"] G7:=by
 refine F.fn sc_better (λvs H Q E h=>?_) (λf cdv A outer s H vs Q E hr h=>?_)
 ·unfold G7 at h;split at h;rfl;exact h.elim
 refine⟨_,(@Ak _ _ _ _ _ (@AH _ _ (4) _ _ _ _ sc_better.nd rfl (AD (by rfl)) (@Aj _ _ _ _ _ _ _ _ _ _ D_terms_of (hr.mono (by decide)) rfl (@Aq _ _ _ _ _ (@cx _ 0 _ _ (by rfl)) (@cx _ 1 _ _ (by rfl)) (by rfl)) (by decide) (by rfl) (by rfl)) (by rfl) (AE (by rfl))) (@Ak _ _ _ _ _ (@BM _ _ _ _ (@Aj _ _ _ _ _ _ _ _ _ _ D_need_boiler (hr.mono (by decide)) rfl (@Aq _ _ _ _ _ (@cx _ 0 _ _ (by rfl)) (@cx _ 2 _ _ (by rfl)) (by rfl)) (by decide) (by rfl) (by rfl)) (by rfl)) (@Ak _ _ _ _ _ (@BM _ _ _ _ (@Aj _ _ _ _ _ _ _ _ _ _ D_need_hour (hr.mono (by decide)) rfl (@Aq _ _ _ _ _ (@cx _ 1 _ _ (by rfl)) (@cx _ 3 _ _ (by rfl)) (by rfl)) (by decide) (by rfl) (by rfl)) (by rfl)) (@Ak _ _ _ _ _ (@AH _ _ (5) _ _ _ _ sc_better.nd rfl (AD (by rfl)) (@Aj _ _ _ _ _ _ _ _ _ _ D_coal_or_refuse (hr.mono (by decide)) rfl (@Al _ _ _ (@cx _ 4 _ _ (by rfl)) (by rfl)) (by decide) (by rfl) (by rfl)) (by rfl) (AE (by rfl))) (@Ak _ _ _ _ _ (@A1 _ _ _ _ _ _ (@cx _ 4 _ _ (by rfl)) (@AC _ K _ _ _ (4) _ (@Ah _ _ _ _ _ (@Ag _ _ _ 6 sc_better.nd (by rfl)) (@Ah _ _ _ _ _ (@Ag _ _ _ 7 sc_better.nd (by rfl)) (@Ah _ _ _ _ _ (@Ag _ _ _ 8 sc_better.nd (by rfl)) (@Ah _ _ _ _ _ (@Ag _ _ _ 9 sc_better.nd (by rfl)) (@AA _) (by rfl)) (by rfl)) (by rfl)) (by rfl)) (by rfl) (by rfl) (by rfl) (by rfl)) (by rfl) (by rfl) (by rfl)) (@Ak _ _ _ _ _ (@AH _ _ (10) _ _ _ _ sc_better.nd rfl (AD (by rfl)) (@Aj _ _ _ _ _ _ _ _ _ _ D_replaced (hr.mono (by decide)) rfl (@AG _ _ _ _ _ _ _ (@cx _ 6 _ _ (by rfl)) (@cx _ 3 _ _ (by rfl)) (@Aj _ _ _ _ _ _ _ _ _ _ D_added (hr.mono (by decide)) rfl (@AG _ _ _ _ _ _ _ (@AF _ _ _ _ _ _ _ (@AW _ K (by rfl)) (@cx _ 6 _ _ (by rfl)) (@cx _ 3 _ _ (by rfl)) (λ_ _=>rfl)) (@cx _ 2 _ _ (by rfl)) (@Af _ _ _ _) (by rfl)) (by decide) (by rfl) (by rfl)) (by rfl)) (by decide) (by rfl) (by rfl)) (by rfl) (AE (by rfl))) (@Ao _ _ _ (@Ax _ _ _ _ (@As _ _ _ _ _ _ _ _ (@Bh _) (@cx _ 5 _ _ (by rfl)) (@Aj _ _ _ _ _ _ _ _ _ _ D_coal_under (hr.mono (by decide)) rfl (@Al _ _ _ (@Bc _ _ _ _ _ (@BI _ _ _ _ _ _ _ _ _ (@cx _ 10 _ _ (by rfl)) (@cx _ 7 _ _ (by rfl)) (@cx _ 8 _ _ (by rfl)) (@cx _ 9 _ _ (by rfl)) (by rfl))) (by rfl)) (by decide) (by rfl) (by rfl))))))))))),?_⟩
 unfold G7 at h
 split at h
 ·rename_i v u bb hh
  obtain⟨p,P,S,jn,k,tw,rfl,hj,rfl,hk,q⟩:=h
  have ok:=tw.ok
  have so:=tw.so
  have fl:=C8 ok so
  have yes:=tw.no
  have hp0:=ok.lo0
  have hp1:=ok.ls
  have hp2:=ok.sh
  have hp3:=ok.h4
  refine⟨p,P,S,ok,so,tw.r,tw.ru,λtv H1 s1 rt=>?_⟩
  refine⟨p,P,jn,ok,Aa.ev (Ev.same s1) _ _ tw.r,rfl,hj,λHb sb=>?_⟩
  have s1b:=s1.trans sb
  refine⟨p,S,P.bs.length,k,so,Aa.ev (Ev.same s1b) _ _ tw.ru,rfl,hk,λHh sh=>?_⟩
  have ldd:(draws P S).length=S.ex.length:=BH
  have bdk:=Kr ok so _ (getD_mem (l:=draws P S) (d:=0) (i:=k) (by omega))
  have x8:=so.x8
  refine⟨p,terms P S,fl,(Aa.ev (Ev.same (sb.trans sh)) _ _ rt),yes,λc qs H2 hf s2=>?_⟩
  have sA:=(s1b.trans sh).trans s2
  obtain⟨A,C,B,D,M,xc,rfl,hA,hC,rc,hB,hD,hM⟩:=Aa.terms (Aa.ev (Ev.same s2) _ _ (Aa.ev (Ev.same (sb.trans sh)) _ _ rt))
  refine⟨A,_,rfl,Ae.of hA,rfl,_,_,rfl,_,_,rfl,_,_,rfl,_,_,rfl,rfl,?_⟩
  have b4:=ok.b4
  have hrow:(caps P S)[k]? =some ((caps P S).getD k []):=by rw [List.getD_eq_getElem?_getD,ET hk];rfl
  obtain⟨cr,lr⟩:=Ei (S:=S) ok _ (List.mem_of_getElem? hrow)
  obtain⟨y,hy,ry⟩:=rc.get (i:=k) (d:=Bd ((caps P S).getD k [])) (by rw [List.getElem?_map];show(caps P S)[k]?.map Bd=_;rw [hrow];rfl)
  obtain⟨Cn,rfl,hCn⟩:=Aa.ofRow' ry
  have lxc:=rc.len
  rw [List.length_map] at lxc
  have lcs:(terms P S).cs.length=S.ex.length:=CO
  refine⟨C,xc,(k:Int),.ref Cn,rfl,rfl,Ae.of hC,DO hy,(caps P S).getD k [],jn,rfl,by omega,by omega,hCn,λB2 H3 s3 k3=>⟨xc,k,rfl,by omega,by omega,s3 _ _ hC,λC2 H4 s4 k4=>?_⟩⟩
  have s34:=s3.trans s4
  refine λt2 ht2=>?_
  have n2:=Ab.new (o:= .tup [.ref C2,.ref B,.ref D,.ref M]) ht2
  have n12:=s34.trans n2
  have bj:=cr _ (getD_mem (l:=(caps P S).getD k []) (d:=0) (i:=jn) (by omega))
  have rcs:Ad p (upd H4 t2 (.tup [.ref C2,.ref B,.ref D,.ref M])) (((caps P S).set k (((caps P S).getD k []).set jn (((caps P S).getD k []).getD jn 0+1))).map Bd) (xc.set k (.ref B2)):=by
   rw [List.map_set]
   exact Ml (Aa.row ((s4.trans n2) _ _ k3)) k (Ad.ev (Ev.same n12) _ _ rc)
  have fl2:AL { terms P S with cs:=(caps P S).set k (((caps P S).getD k []).set jn (((caps P S).getD k []).getD jn 0+1))}:=Mq fl (by rw [List.length_set,lr];show P.bs.length=(P.bs.map (·.2)).length;rw [List.length_map]) λc hc=>by
   rcases List.mem_or_eq_of_mem_set hc with hc | rfl
   ·have:=cr c hc;omega
   ·omega
  have rep:=GW (p:=p) (T:= { terms P S with cs:=(caps P S).set k (((caps P S).getD k []).set jn (((caps P S).getD k []).getD jn 0+1))}) Ai (n2 _ _ k4) rcs (n12 _ _ hB) (n12 _ _ hD) (n12 _ _ hM)
  have lco:(P.bs.map (·.2)).length=P.bs.length:=List.length_map _
  refine⟨p,_,fl2,rep,λno=>absurd (Iv (T:=terms P S) (U:= { terms P S with cs:=(caps P S).set k (((caps P S).getD k []).set jn (((caps P S).getD k []).getD jn 0+1))}) rfl (λi=>Int.le_refl _) (by show(caps P S).length=((caps P S).set k _).length;rw [List.length_set]) (λi=>?_) (Int.le_refl _) (Int.le_refl _) (Int.le_refl _) yes) no,λno' f2 ps H5 hf2 s5=>?_⟩
  ·show((caps P S).getD i []).sum<=(((caps P S).set k (((caps P S).getD k []).set jn (((caps P S).getD k []).getD jn 0+1))).getD i []).sum
   rw [LN (by rw [CO];exact hk)]
   split
   ·rename_i z
    rw [z,Mr (by omega)]
    omega
   ·exact Int.le_refl _
  ·exact q _ _ no' ⟨_,_,f2,ps,hf,hf2,rfl⟩ (sA.trans (n12.trans s5))
 ·exact h.elim
end
end MF
end
section
namespace MF
open PySem PySem.Spec PyProof.Rows L2
variable {t : List (Int × Int)} {H H' : Hp} {a R : Addr} {i : Nat} {S : SY} {T : TM} {F : List (List Int)}
def AT (t:List (Int×Int)):List (Ar×V):=t.map λq=>(.inl q.1,.int q.2)
theorem Ms:(AT t).length=t.length:=by unfold AT;rw [List.length_map]
theorem Mt {k:Int}:∀(t:List (Int×Int)),BK (AT t) (.inl k)=(AQ t k).map V.int
 | []=>rfl
 | p::r=>by
  have ih:=Mt r (k:=k)
  by_cases e:p.1=k
  ·have h:BK (AT (p::r)) (.inl k)=some (.int p.2):=Gf (p:=(Sum.inl p.1,V.int p.2)) (r:=AT r) (by rw [e])
   rw [h,Cg e];rfl
  ·have h:BK (AT (p::r)) (.inl k)=BK (AT r) (.inl k):=Gg (p:=(Sum.inl p.1,V.int p.2)) (r:=AT r) (λz=>e (Sum.inl.inj z))
   rw [h,ih,CC e]
theorem Tp {k v:Int}:BA (AT t) (.inl k) (.int v)=AT (B7 t k v):=by
 have a:((AT t).any λq=>decide (q.1=Sum.inl k))=(t.any λq=>decide (q.1=k)):=by
  unfold AT
  rw [List.any_map]
  congr 1
  funext q
  show decide ((Sum.inl q.1:Ar)=Sum.inl k)=decide (q.1=k)
  exact decide_eq_decide.mpr ⟨λz=>Sum.inl.inj z,λz=>by rw [z]⟩
 unfold BA B7
 rw [a]
 split
 ·unfold AT
  rw [List.map_map,List.map_map]
  refine List.map_congr_left λq _=>?_
  show(if (Sum.inl q.1:Ar)=Sum.inl k then((Sum.inl q.1:Ar),V.int v) else(Sum.inl q.1,V.int q.2))=(Sum.inl (if q.1=k then(q.1,v) else q).1,V.int (if q.1=k then(q.1,v) else q).2)
  by_cases e:q.1=k
  ·rw [if_pos e,if_pos (by rw [e])]
  ·rw [if_neg e,if_neg (λz=>e (Sum.inl.inj z))]
 ·unfold AT;rw [List.map_append];rfl
theorem Fh {H3:Hp}{o:HO} (s:Ab H H3) (n:H a=none):Ab H (upd H3 a o):=λb o' q=>by
 rw [Ap (λz=>by rw [z,n] at q;cases q)];exact s b o' q
theorem Tq {k c:Int}:(BK (AT t) (.inl k)).getD (.int c)= .int ((AQ t k).getD c):=by
 rw [Mt];cases AQ t k<;>rfl
theorem Tr {q:Ar×V} (h:(AT t)[i]? =some q):∃g,t[i]? =some g/\q=(.inl g.1,.int g.2):=by
 unfold AT at h
 rw [List.getElem?_map] at h
 cases e:t[i]? with
 | none=>rw [e] at h;cases h
 | some g=>rw [e] at h;exact⟨g,rfl,(Option.some.inj h).symm⟩
theorem G8 {b:Addr} (s:Ab H H') (n:H' b=none):H b=none:=by
 cases e:H b with
 | none=>rfl
 | some o=>rw [s b o e] at n;cases n
theorem Two.sm {p:Addr}{P:PL}{v u:V} (t:Two p H P S v u) (s:Ab H H'):Two p H' P S v u:=⟨t.ok,t.so,Aa.ev (Ev.same s) _ _ t.r,Aa.ev (Ev.same s) _ _ t.ru,t.no⟩
def DI (T:TM) (c:Int):Prop:=∀f ps,CS T f ps->c=f
def Cj (cs:List (Int×Int)) (n:Nat):List V:=(List.range n).map fun(a:Nat)=>V.int (AY cs (a:Int))
theorem Tt {cs:List (Int×Int)}:(Bi cs).map (λq=>V.int q.2)=Cj cs ((Az cs).toNat+1):=by unfold Bi Cj;rw [List.map_map];rfl
theorem Mu {cs:List (Int×Int)}{n:Nat}:Cj cs (n+1)=Cj cs n++[V.int (AY cs (n:Int))]:=by unfold Cj;rw [List.range_succ,List.map_append];rfl
theorem G9 {cs:List (Int×Int)}{n:Nat}:(Cj cs n).length=n:=by unfold Cj;simp
theorem Tu {cs:List (Int×Int)}{n:Nat}:BT (Cj cs (n+1)) (-1)=some (V.int (AY cs (n:Int))):=by
 unfold BT CJ
 rw [G9,if_neg (by omega),if_pos (by omega)]
 show(Cj cs (n+1))[((-1:Int)+((n+1:Nat):Int)).toNat]? =_
 rw [show((-1:Int)+((n+1:Nat):Int)).toNat=n from by omega,Mu,List.getElem?_append_right (by rw [G9];exact Nat.le_refl _),G9,Nat.sub_self]
 rfl
theorem Mv:∀ {cs:List (Int×Int)}{i:Nat}{j:Int},i<cs.length->(∀c∈cs,0<=c.2)->0<=j->j<(cs.getD i (0,0)).2->AY cs (Az (cs.take i)+j+1)=AY cs (Az (cs.take i)+j)+(cs.getD i (0,0)).1
 | [],_,_,h,_,_,_=>absurd h (Nat.not_lt_zero _)
 | c::L,0,j,_,_,h0,h1=>by
  have h1':j<c.2:=h1
  show c.1 * min (0+j+1) c.2+AY L ((0+j+1)-min (0+j+1) c.2)=c.1 * min (0+j) c.2+AY L ((0+j)-min (0+j) c.2)+c.1
  rw [show min (0+j+1) c.2=j+1 from by omega,show min (0+j) c.2=j from by omega,show(0+j+1)-(j+1)=(0:Int) from by omega,show(0+j)-j=(0:Int) from by omega,Int.mul_add,Int.mul_one]
  omega
 | c::L,i+1,j,h,hp,h0,h1=>by
  have hc:=hp c List.mem_cons_self
  have hL:∀d∈L,0<=d.2:=λd hd=>hp d (List.mem_cons_of_mem _ hd)
  have hm:=E6 (L:=L.take i) λd hd=>hL d (List.mem_of_mem_take hd)
  have ih:=Mv (cs:=L) (i:=i) (j:=j) (by simpa using h) hL h0 (by simpa using h1)
  show c.1 * min (c.2+Az (L.take i)+j+1) c.2+AY L ((c.2+Az (L.take i)+j+1)-min (c.2+Az (L.take i)+j+1) c.2)=c.1 * min (c.2+Az (L.take i)+j) c.2+AY L ((c.2+Az (L.take i)+j)-min (c.2+Az (L.take i)+j) c.2)+_
  rw [show min (c.2+Az (L.take i)+j+1) c.2=c.2 from by omega,show min (c.2+Az (L.take i)+j) c.2=c.2 from by omega,show(c.2+Az (L.take i)+j+1)-c.2=Az (L.take i)+j+1 from by omega,show(c.2+Az (L.take i)+j)-c.2=Az (L.take i)+j from by omega,ih]
  show _=_+(L.getD i (0,0)).1
  omega
theorem Mw:∀ {cs:List (Int×Int)}{i:Nat},i<cs.length->Az (cs.take (i+1))=Az (cs.take i)+(cs.getD i (0,0)).2
 | [],_,h=>absurd h (Nat.not_lt_zero _)
 | c::L,0,_=>by show c.2+0=0+c.2;omega
 | c::L,i+1,h=>by
  have:=Mw (cs:=L) (i:=i) (by simpa using h)
  show c.2+Az (L.take (i+1))=c.2+Az (L.take i)+(L.getD i (0,0)).2
  omega
theorem Mx:∀ {L:List (Int×Int)},(∀c∈L,c.2<=20)->Az L<=20 *(L.length:Int)
 | [],_=>by decide
 | c::L,h=>by
  have:=Mx (L:=L) λd hd=>h d (List.mem_cons_of_mem _ hd)
  have:=h c List.mem_cons_self
  show c.2+Az L<=20 *((L.length+1:Nat):Int)
  omega
theorem My:∀ {r co:List Int},r.length=co.length->(∀x∈r,0<=x/\x<=20)->(∀c∈co,1<=c/\c<=9)->0<=Bm r co/\Bm r co<=180 *(co.length:Int)
 | [],[],_,_,_=>⟨Int.le_refl _,Int.le_refl _⟩
 | [],_::_,h,_,_=>by cases h
 | _::_,[],h,_,_=>by cases h
 | x::r,c::co,h,hx,hc=>by
  have ih:=My (r:=r) (co:=co) (by simpa using h) (λy hy=>hx y (List.mem_cons_of_mem _ hy)) λy hy=>hc y (List.mem_cons_of_mem _ hy)
  have a:=hx x List.mem_cons_self
  have b:=hc c List.mem_cons_self
  have p1:0<=c * x:=Int.mul_nonneg (by omega) a.1
  have p2:c * x<=9 * 20:=Int.le_trans (Int.mul_le_mul_of_nonneg_right b.2 a.1) (Int.mul_le_mul_of_nonneg_left a.2 (by decide))
  show 0<=c * x+Bm r co/\c * x+Bm r co<=180 *((co.length+1:Nat):Int)
  omega
theorem IZ (fl:AL T) {F:List (List Int)} (rt:RowT T F):∀i,i<=T.ds.length->0<=AX T F i/\AX T F i<=720 *(i:Int)
 | 0,_=>⟨Int.le_refl _,Int.le_refl _⟩
 | i+1,h=>by
  have ih:=IZ fl rt i (by omega)
  obtain⟨l,b⟩:=rt.2 i (by omega)
  have o:=fl.o
  have hc:=Dd fl (show i<T.ds.length by omega)
  have r:=My (r:=F.getD i []) (co:=T.co) l (λx hx=>by
   obtain⟨k,hk,e⟩:=List.mem_iff_getElem.mp hx
   have bb:=b k (by omega)
   rw [List.getD_eq_getElem?_getD,List.getElem?_eq_getElem hk] at bb
   have e':(some (F.getD i [])[k]).getD 0=x:=e
   rw [e'] at bb
   have cc:=(fl.c _ (getD_mem (l:=T.cs) (i:=i) (d:=[]) (by rw [fl.ok.lc];omega))).2 _ (getD_mem (l:=T.cs.getD i []) (i:=k) (d:=0) (by omega))
   omega) fl.o1
  show 0<=AX T F i+Bm (F.getD i []) T.co/\AX T F i+Bm (F.getD i []) T.co<=720 *((i+1:Nat):Int)
  omega
theorem LvT.bd (fl:AL T) {i:Nat} (hi:i<=T.ds.length) {q:Int×Int} (h:LvT T i q):0<=q.2/\q.2<=5760:=by
 obtain⟨F,rt,_,rfl⟩:=h
 have:=IZ fl rt i hi
 have:=fl.ok.l8
 show 0<=AX T F i/\AX T F i<=5760
 omega
theorem Mz:∀ {L:List (Int×Int)}{q:Int×Int},(∀c∈L,1<=c.1/\c.1<=9/\c.2<=20)->AttP L q->0<=q.2/\q.2<=180 *(L.length:Int)
 | [],q,_,h=>by have e:q=(0,0):=h;subst e;exact⟨Int.le_refl _,Int.le_refl _⟩
 | c::L,q,hc,⟨x,q',a,b,h,e⟩=>by
  have ih:=Mz (λd hd=>hc d (List.mem_cons_of_mem _ hd)) h
  have bc:=hc c List.mem_cons_self
  subst e
  have p1:0<=c.1 * x:=Int.mul_nonneg (by omega) a
  have p2:c.1 * x<=9 * 20:=Int.le_trans (Int.mul_le_mul_of_nonneg_right bc.2.1 a) (Int.mul_le_mul_of_nonneg_left (by omega) (by decide))
  show 0<=c.1 * x+q'.2/\c.1 * x+q'.2<=180 *((L.length+1:Nat):Int)
  omega
theorem Tv {l:List Int}{x:V} (h:(l.map V.int)[i]? =some x):∃m,l[i]? =some m/\x= .int m:=by
 rw [List.getElem?_map] at h
 cases z:l[i]? with
 | none=>rw [z] at h;cases h
 | some m=>rw [z] at h;cases h;exact⟨m,rfl,rfl⟩
theorem Tw {P:Program}{w:World}{K:PySem.W.Frag}{S1 S2 S3:AV P w K}{ta:TA}{σ:L2.St}{H H1 B:Hp}{R:It->Hp->Prop}{a b:Addr}{xs ys:List V} (e:∀k,ta σ H k=k [.ref a,.ref b] H1) (sB:Ab B H1) (q2:S2.Sq H1 b ys)
  (d:(∀H',Ab B H'->S1.Sq H' a xs)\/(∀H',Ab B H'->S3.Sq H' a xs)) (go:∀S:AV P w K,(∀H',Ab B H'->S.Sq H' a xs)->R (Dn S S2 a b) H1):KF (Do S1 S2 ta) (Do S3 S2 ta) σ H R:=by
 rcases d with d | d
 ·refine Or.inl ?_
  show ta σ H _
  rw [e]
  exact⟨a,b,rfl,⟨_,d _ sB⟩,⟨_,q2⟩,go S1 d⟩
 ·refine Or.inr ?_
  show ta σ H _
  rw [e]
  exact⟨a,b,rfl,⟨_,d _ sB⟩,⟨_,q2⟩,go S3 d⟩
theorem Ty {Ts:List Addr}{xs ys:List Int} (l:Ts.length=(xs.map V.int).length) (le:xs.length=ys.length) (zd:Zd H Ts (xs.map V.int) (ys.map V.int)):PrT H Ts (xs.zip ys):=by
 refine⟨by rw [l,List.length_map,List.length_zip];omega,λj T c hT hc=>?_⟩
 obtain⟨a,b⟩:=List.getElem?_zip_eq_some.mp hc
 exact zd j T _ _ hT (by rw [List.getElem?_map,a];rfl) (by rw [List.getElem?_map,b];rfl)
theorem Tz {i j:Int}:(if j<i then j else i)=min i j:=by split<;>omega
theorem TC {L:List (Int×Int)}{k:Nat}{y:V} (h:((Bi L).map λq=>V.int q.2)[k]? =some y):(Bi L)[k]? =some ((k:Int),AY L (k:Int))/\y= .int (AY L (k:Int)):=by
 rw [List.getElem?_map] at h
 cases z:(Bi L)[k]? with
 | none=>rw [z] at h;cases h
 | some q=>
  have hk:k<(Az L).toNat+1:=by have:=(List.getElem?_eq_some_iff.mp z).1;rw [RK] at this;exact this
  rw [LW hk] at z
  cases z
  rw [LW hk] at h
  cases h
  exact⟨rfl,rfl⟩
structure Rows (H H':Hp) (R:Addr) (as:List Addr) (F:List (List Int)):Prop where
 k:H' R=some (.lst (as.map V.ref))
 l:as.length=F.length
 g:∀(i:Nat) a r,as[i]? =some a->F[i]? =some r->H' a=some (.lst (r.map V.int))
 nd:as.Nodup
 fr:∀a∈as,H a=none/\a≠R
 fR:H R=none
theorem Rows.feed {as:List Addr} (h:Rows H H' R as F):Feed H' F (.ref R):=by
 refine⟨R,as.map V.ref,rfl,by rw [List.length_map];exact h.l,.inr ⟨h.k,λi r x hr hx=>?_⟩⟩
 rw [List.getElem?_map] at hx
 cases z:as[i]? with
 | none=>rw [z] at hx;cases hx
 | some a=>
  rw [z] at hx
  cases hx
  exact⟨a,rfl,h.g i a r z hr⟩
theorem Rows.put {as:List Addr} (h:Rows H H' R as F) {i:Nat} (ha:as[i]? =some a) (r:List Int):Rows H (upd H' a (.lst (r.map V.int))) R as (F.set i r):=by
 have ma:=List.mem_of_getElem? ha
 have hi:i<as.length:=(List.getElem?_eq_some_iff.mp ha).1
 refine⟨by rw [Ap (Ne.symm (h.fr a ma).2)];exact h.k,by rw [List.length_set];exact h.l,λj b s hb hs=>?_,h.nd,h.fr,h.fR⟩
 by_cases e:j=i
 ·subst e
  rw [ha] at hb
  cases hb
  rw [List.getElem?_set_self (by rw [<-h.l];exact hi)] at hs
  cases hs
  exact Ai
 ·rw [List.getElem?_set_ne (Ne.symm e)] at hs
  have hb':=hb
  have ne:b≠a:=λz=>by
   subst z
   obtain⟨hj,e1⟩:=List.getElem?_eq_some_iff.mp hb
   obtain⟨hi2,e2⟩:=List.getElem?_eq_some_iff.mp ha
   rcases Nat.lt_or_gt_of_ne e with q | q
   ·exact List.pairwise_iff_getElem.mp h.nd j i hj hi2 q (e1.trans e2.symm)
   ·exact List.pairwise_iff_getElem.mp h.nd i j hi2 hj q (e2.trans e1.symm)
  rw [Ap ne]
  exact h.g j b s hb hs
theorem MA {as:List Addr} (h:as[i]? =some a):BT (as.map V.ref) (i:Int)=some (.ref a):=DO (by rw [List.getElem?_map,h];rfl)
theorem TD {r:List Int}{x:Int} (h:r[i]? =some x):BT (r.map V.int) (i:Int)=some (.int x):=DO (by rw [List.getElem?_map,h];rfl)
theorem map_set {r:List Int}{x:Int}:(r.map V.int).set i (.int x)=(r.set i x).map V.int:=by rw [List.map_set]
theorem TF {l:List Int} (h:i<l.length):l[i]? =some (l.getD i 0):=by rw [List.getD_eq_getElem?_getD,List.getElem?_eq_getElem h];rfl
theorem I8 {P:PL}{S:SY} (ok:P.ok) {k:Nat} (hk:k<S.ex.length):(caps P S)[k]? =some ((caps P S).getD k [])/\(∀c∈caps P S,∀x∈c,0<=x/\x<=9)/\((caps P S).getD k []).length=P.bs.length:=by
 have e:(caps P S)[k]? =some ((caps P S).getD k []):=by rw [List.getD_eq_getElem?_getD,ET hk];rfl
 exact⟨e,λc hc=>(Ei (S:=S) ok _ hc).1,(Ei (S:=S) ok _ (List.mem_of_getElem? e)).2⟩
theorem MB {P:PL} (ok:P.ok) (so:S.ok P.bs.length) {j k:Nat} (hj:j<P.bs.length) (hk:k<S.ex.length):AL (Bt (terms P S) j k):=by
 obtain⟨e,bd,lr⟩:=I8 ok hk
 have cr:=bd _ (List.mem_of_getElem? e)
 have bj:=cr _ (getD_mem (l:=(caps P S).getD k []) (d:=0) (i:=j) (by omega))
 refine Mq (C8 ok so) (by rw [List.length_set];show((caps P S).getD k []).length=(P.bs.map (·.2)).length;rw [lr,List.length_map]) λc hc=>?_
 have hc':c∈((caps P S).getD k []).set j (((caps P S).getD k []).getD j 0+1):=hc
 rcases List.mem_or_eq_of_mem_set hc' with z | z
 ·have:=cr c z;omega
 ·omega
theorem TH {P:PL} (ok:P.ok) {j k:Nat} (hj:j<P.bs.length) (hk:k<S.ex.length) (yes:AK (terms P S)=none):AK (Bt (terms P S) j k)=none:=by
 obtain⟨e,bd,lr⟩:=I8 ok hk
 refine Iv (T:=terms P S) (U:=Bt (terms P S) j k) rfl (λi=>Int.le_refl _) (by show(caps P S).length=((caps P S).set k _).length;rw [List.length_set]) (λi=>?_) (Int.le_refl _) (Int.le_refl _) (Int.le_refl _) yes
 show((caps P S).getD i []).sum<=(((caps P S).set k (((caps P S).getD k []).set j (((caps P S).getD k []).getD j 0+1))).getD i []).sum
 rw [LN (by rw [CO];exact hk)]
 split
 ·rename_i z
  rw [z,Mr (by omega)]
  omega
 ·exact Int.le_refl _
def EB (T U:TM) (bad:Prop) (x:V):Prop:=(bad/\x= .non)\/(¬bad/\AK U=none/\∃c f,DI T c/\DI U f/\x= .int (c-f))
def mU (P:PL) (S:SY):Nat->TM
 | 0=> { terms P S with hi:=P.hi+1}
 | 1=> { terms P S with lo:=P.lo-1}
 | _=> { terms P S with st:=P.st+1}
def B9 (P:PL):Nat->Prop
 | 0=>False
 | 1=>P.lo=0
 | _=>P.st=P.hi
theorem MC {P:PL} (ok:P.ok) (so:S.ok P.bs.length) {j:Nat} (hj:j<3) (g:¬B9 P j):AL (mU P S j)/\(mU P S j).lo<=(mU P S j).st/\(mU P S j).st<=(mU P S j).hi/\(mU P S j).ds=draws P S/\(mU P S j).co=P.bs.map (·.2)/\(mU P S j).cs=caps P S:=by
 have l0:=ok.lo0
 have ls:=ok.ls
 have sh:=ok.sh
 have h4:=ok.h4
 have fl:=C8 ok so
 have:j=0\/j=1\/j=2:=by omega
 rcases this with rfl | rfl | rfl
 ·exact⟨Mm fl (by omega) (by omega),ls,by show P.st<=P.hi+1;omega,rfl,rfl,rfl⟩
 ·have g':P.lo≠0:=g
  exact⟨Mo fl (by omega) (by omega),by show P.lo-1<=P.st;omega,sh,rfl,rfl,rfl⟩
 ·have g':P.st≠P.hi:=g
  exact⟨Mp fl (by omega) (by omega),by show P.lo<=P.st+1;omega,by show P.st+1<=P.hi;omega,rfl,rfl,rfl⟩
theorem MD {P:PL}{j:Nat} (hj:j<3) (yes:AK (terms P S)=none):AK (mU P S j)=none:=by
 have:j=0\/j=1\/j=2:=by omega
 rcases this with rfl | rfl | rfl
 ·exact EA (T:=terms P S) (U:= { terms P S with hi:=P.hi+1}) rfl rfl (Int.le_refl _) (show P.hi<=P.hi+1 by omega) (Int.le_refl _) yes
 ·exact EA (T:=terms P S) (U:= { terms P S with lo:=P.lo-1}) rfl rfl (Int.le_refl _) (Int.le_refl _) (show P.lo-1<=P.lo by omega) yes
 ·exact EA (T:=terms P S) (U:= { terms P S with st:=P.st+1}) rfl rfl (show P.st<=P.st+1 by omega) (Int.le_refl _) (Int.le_refl _) yes
theorem TJ {P:PL}{S:SY} (ok:P.ok) {j:Nat} (hj:j<3):B9 P j↔((mU P S j).lo<0\/(mU P S j).hi<(mU P S j).st):=by
 have l0:=ok.lo0
 have ls:=ok.ls
 have sh:=ok.sh
 have:j=0\/j=1\/j=2:=by omega
 rcases this with rfl | rfl | rfl
 ·exact⟨λz=>z.elim,λz=>by
   have z':P.lo<0\/P.hi+1<P.st:=z
   exact absurd z' (by omega)⟩
 ·show P.lo=0↔(P.lo-1<0\/P.hi<P.st)
  omega
 ·show P.st=P.hi↔(P.lo<0\/P.hi<P.st+1)
  omega
def He:Sp:=λvs H Q _=>match vs with | [.ref A]=>∃Ts cs,H A=some (.lst (Ts.map V.ref))/\Ts.length<=4/\PrT H Ts cs/\(∀c∈cs,0<=c.2/\c.2<=20)/\∀L H' cs',cs'.Perm cs->cs'.Pairwise (λc d=>c.1<=d.1)->Ab H H'->H L=none->H' L=some (.lst ((Bi cs').map λq=>V.int q.2))->Q (.ref L) H' | _=>False
def I9:Sp:=λvs H Q _=>match vs with | [.ref O,.ref C,.ref D,.ref M]=>∃T,AL T/\T.lo<=T.st/\T.st<=T.hi/\0<T.ds.length/\H O=some (.lst (T.co.map V.int))/\Feed H T.cs (.ref C)/\H D=some (.tup (T.ds.map V.int))/\H M=some (.tup [.int T.lo,.int T.hi,.int T.st])/\(AK T≠none->∀H',Ab H H'->Q .non H')/\(AK T=none->∀c H',DI T c->Ab H H'->Q (.int c) H') | _=>False
def Ja:Sp:=λvs H Q _=>match vs with | [v]=>∃p P,PL.ok P/\Aa p H P.d v/\∀L H',Ab H H'->H L=none->H' L=some (.lst ((P.bs.map (·.2)).map V.int))->Q (.ref L) H' | _=>False
def Fi:Sp:=λvs H Q _=>match vs with | [v,u]=>∃p P S,Two p H P S v u/\∀c H',DI (terms P S) c->Ab H H'->Q (.int c) H' | _=>False
def Hf:Sp:=λvs H Q _=>match vs with | [v,u]=>∃p P S,Two p H P S v u/\∀L ys H',ys.length=3->(∀j y,ys[j]? =some y->EB (terms P S) (mU P S j) (B9 P j) y)->Ab H H'->H L=none->H' L=some (.lst ys)->Q (.ref L) H' | _=>False
def Hg:Sp:=λvs H Q _=>match vs with | [v,u,.int b,.int h]=>∃p P S,∃j k:Nat,Two p H P S v u/\b=(j:Int)/\j<P.bs.length/\h=(k:Int)/\k<S.ex.length/\∀c f H',DI (terms P S) c->DI (Bt (terms P S) j k) f->Ab H H'->Q (.int (c-f)) H' | _=>False
section
variable {P : Program} {w : World} {K : PySem.W.Frag} {mg : Str -> Option Value} {base : Heap}
theorem sc__law_costs:Ay ["_law_columns","_law_found","_law_coal_here","_law_most","_law_turn"] ["_law_columns"] (Aw s__law_costs):=AB
theorem TK (F:Df K mg "_law_costs" s__law_costs ["_law_columns"]) (T:Tx mg)  :Fn P w K mg base 1 "_law_costs" ["_law_columns"] He:=by
 refine F.fn sc__law_costs (λvs H Q E h=>?_) (λf cdv A outer s H vs Q E hr h=>?_)
 ·unfold He at h;split at h;rfl;exact h.elim
 refine⟨_,(@Ak _ _ _ _ _ (@AH _ _ (1) _ _ _ _ sc__law_costs.nd rfl (AD (by rfl)) (@El _ _ _ _ (@Al _ _ _ (@Af _ _ _ _) (by rfl))) (by rfl) (AE (by rfl))) (@Ak _ _ _ _ _ (@Bp _ _ _ _ _ _ _ _ PassesOwn.never rfl (@FU _ K _ _ _ (@AI _ _ _ _ _ _ _ _ _ RZ rfl T.b_sorted boot_sorted (@Al _ _ _ (@cx _ 0 _ _ (by rfl)) (by rfl)) (by decide) (by decide) (by rfl) (by rfl)) (by rfl)) (@AC _ K _ _ _ (2) _ (@Ah _ _ _ _ _ (@Ag _ _ _ 2 sc__law_costs.nd (by rfl)) (@Ah _ _ _ _ _ (@Ag _ _ _ 3 sc__law_costs.nd (by rfl)) (@AA _) (by rfl)) (by rfl)) (by rfl) (by rfl) (by rfl) (by rfl)) (@Ao _ _ _ (@Bp _ _ _ _ _ _ _ _ PassesOwn.never rfl (@Cq _ _ _ _ _ _ rfl T.b_range (@Al _ _ _ (@cx _ 3 _ _ (by rfl)) (by rfl)) (by rfl)) (@Ag _ _ _ 4 sc__law_costs.nd (by rfl)) (@Ao _ _ _ (@BM _ _ _ _ (@CM _ _ _ _ _ _ _ _ _ _ _ _ PySem.F.plainAttrs_list PySem.F.slot_list_append PySem.F.type_list_append CN (@cx _ 1 _ _ (by rfl)) (@Al _ _ _ (@As _ _ _ _ _ _ _ _ (@AO _) (@AF _ _ _ _ _ _ _ (@Bu _ K (by rfl)) (@cx _ 1 _ _ (by rfl)) (@Nn _ _ _ _ _ _ (@Np _) (@Af _ _ _ _)) (λ_ _=>rfl)) (@cx _ 2 _ _ (by rfl))) (by rfl)) (by rfl) (by rfl) (by rfl) (by rfl) (by rfl)) (by rfl))) (by intro _;rfl))) (by intro _;rfl)) (@Ao _ _ _ (@Ax _ _ _ _ (@cx _ 1 _ _ (by rfl)))))),?_⟩
 unfold He at h
 split at h
 ·rename_i A
  obtain⟨Ts,cs,hA,hn,pr,bd,q⟩:=h
  refine λL H1 s1 hL kL=>?_
  refine⟨A,Ts,cs,rfl,s1 _ _ hA,hn,pr.sm s1,λl Ts' cs' hl pr' pm pw=>?_⟩
  have nl:=Ab.new (o:= .lst (Ts'.map V.ref)) hl
  have kl:upd H1 l (.lst (Ts'.map V.ref)) l=some (.lst (Ts'.map V.ref)):=Ai
  have kL2:=nl _ _ kL
  have s2:=s1.trans nl
  have pr2:=pr'.sm nl
  have nlL:l≠L:=λz=>by rw [z,kL] at hl;cases hl
  generalize upd H1 l (.lst (Ts'.map V.ref))=H2 at nl kl kL2 s2 pr2 ⊢
  have bd':∀c∈cs',0<=c.2/\c.2<=20:=λc hc=>bd c (pm.mem_iff.mp hc)
  have len':cs'.length<=4:=by rw [pm.length_eq,<-pr.1];exact hn
  have hp':∀c∈cs',0<=c.2:=λc hc=>(bd' c hc).1
  have m4:∀i,Az (cs'.take i)<=80:=λi=>by
   have a:=Mx (L:=cs'.take i) λc hc=>(bd' c (List.mem_of_mem_take hc)).2
   have b:(cs'.take i).length<=4:=by rw [List.length_take];omega
   omega
  have m0:∀i,0<=Az (cs'.take i):=λi=>E6 λc hc=>hp' c (List.mem_of_mem_take hc)
  refine⟨l,rfl,⟨_,An.of kl⟩,Hu (xs:=Ts'.map V.ref) (λi σ H'=>(∃x2 x3 x4,σ=[some (.ref A),some (.ref L),x2,x3,x4])/\H' l=some (.lst (Ts'.map V.ref))/\PrT H' Ts' cs'/\H' L=some (.lst (Cj cs' ((Az (cs'.take i)).toNat+1)))/\Ab H H') ⟨⟨_,_,_,rfl⟩,kl,pr2,?_,s2⟩ (λi σ H' _ h=>An.of h.2.1) (λi x σ H' hx h=>?_) fun σ H' h=>?_⟩
  ·rw [kL2]
   show some (HO.lst [V.int 0])=some (HO.lst [V.int (AY cs' 0)])
   rw [IJ hp']
  ·obtain⟨⟨x2,x3,x4,rfl⟩,kl3,pr3,kL3,s3⟩:=h
   rw [List.getElem?_map] at hx
   cases hT:Ts'[i]? with
   | none=>rw [hT] at hx;cases hx
   | some T=>
    rw [hT] at hx
    cases hx
    have hi:i<cs'.length:=by rw [<-pr3.1];exact(List.getElem?_eq_some_iff.mp hT).1
    have kT:=pr3.2 i T cs'[i] hT (List.getElem?_eq_getElem hi)
    have ec:cs'.getD i (0,0)=cs'[i]:=by rw [List.getD_eq_getElem?_getD,List.getElem?_eq_getElem hi];rfl
    have bc:=bd' cs'[i] (List.getElem_mem hi)
    have mi0:=m0 i
    have mi4:=m4 i
    have mt:=Mw hi
    rw [ec] at mt
    refine⟨T,_,rfl,Ae.of kT,rfl,_,_,rfl,_,_,rfl,rfl,_,rfl,by omega,by omega,Dm (n:=(cs'[i].2).toNat) (λj σ H'=>(∃x4,σ=[some (.ref A),some (.ref L),some (.int cs'[i].1),some (.int cs'[i].2),x4])/\H' l=some (.lst (Ts'.map V.ref))/\PrT H' Ts' cs'/\H' L=some (.lst (Cj cs' ((Az (cs'.take i)).toNat+j+1)))/\Ab H H') ⟨⟨_,rfl⟩,kl3,pr3,kL3,s3⟩ (λj σ H' hj h=>?_) fun σ H' h=>?_⟩
    ·obtain⟨⟨x4,rfl⟩,kl4,pr4,kL4,s4⟩:=h
     have st:=Mv (cs:=cs') (i:=i) (j:=(j:Int)) hi hp' (by omega) (by rw [ec];omega)
     rw [ec] at st
     refine⟨.inl ⟨rfl,_,An.of kL4⟩,1,rfl,L,_,_,_,rfl,rfl,An.of kL4,Tu,L,_,_,rfl,rfl,kL4,Nat.lt_of_lt_of_le (m:=1000) (by rw [G9];omega) (show 1000<=sizeLine from by decide),⟨_,rfl⟩,?_,pr4.own kL4,?_,Fh s4 hL⟩
     ·rw [Ap nlL];exact kl4
     ·rw [Ai,show(Az (cs'.take i)).toNat+(j+1)+1=((Az (cs'.take i)).toNat+j+1)+1 from by omega,Mu (n:=(Az (cs'.take i)).toNat+j+1)]
      refine congrArg (λz=>some (HO.lst (Cj cs' ((Az (cs'.take i)).toNat+j+1)++[V.int z]))) ?_
      have e1:(((Az (cs'.take i)).toNat+j+1:Nat):Int)=Az (cs'.take i)+(j:Int)+1:=by omega
      have e2:(((Az (cs'.take i)).toNat+j:Nat):Int)=Az (cs'.take i)+(j:Int):=by omega
      rw [e1,e2]
      exact st.symm
    ·obtain⟨⟨x4,rfl⟩,kl4,pr4,kL4,s4⟩:=h
     refine⟨⟨_,_,_,rfl⟩,kl4,pr4,?_,s4⟩
     rw [kL4,mt]
     rw [show(Az (cs'.take i)+cs'[i].2).toNat+1=(Az (cs'.take i)).toNat+(cs'[i].2).toNat+1 from by omega]
  ·obtain⟨⟨x2,x3,x4,rfl⟩,kl3,pr3,kL3,s3⟩:=h
   refine q L H' cs' pm pw s3 hL ?_
   rw [kL3,Tt,List.length_map,pr3.1,List.take_length]
 ·exact h.elim
theorem sc__law_least:Ay ["_law_coals_here","_law_caps_here","_law_draws_here","_law_main","_law_low","_law_high","_law_start","_law_now","_law_row","_law_draw_here","_law_later","_law_costs_here","_law_here","_law_cost","_law_amount","_law_more","_law_left"] ["_law_coals_here","_law_caps_here","_law_draws_here","_law_main"] (Aw s__law_least):=AB
abbrev Hi (P:Program) (w:World) (K:PySem.W.Frag) (mg:Str->Option Value) (base:Heap):Prop:=Fn P w K mg base 2 "_law_least" ["_law_coals_here","_law_caps_here","_law_draws_here","_law_main"] I9
theorem TL (F:Df K mg "_law_least" s__law_least ["_law_coals_here","_law_caps_here","_law_draws_here","_law_main"]) (T:Tx mg) (D__law_costs:Fn P w K mg base 1 "_law_costs" ["_law_columns"] He):Hi P w K mg base:=by
 refine F.fn sc__law_least (λvs H Q E h=>?_) (λf cdv A outer s H vs Q E hr h=>?_)
 ·unfold I9 at h;split at h;rfl;exact h.elim
 refine⟨_,(@Ak _ _ _ _ _ (@A1 _ _ _ _ _ _ (@cx _ 3 _ _ (by rfl)) (@AC _ K _ _ _ (3) _ (@Ah _ _ _ _ _ (@Ag _ _ _ 4 sc__law_least.nd (by rfl)) (@Ah _ _ _ _ _ (@Ag _ _ _ 5 sc__law_least.nd (by rfl)) (@Ah _ _ _ _ _ (@Ag _ _ _ 6 sc__law_least.nd (by rfl)) (@AA _) (by rfl)) (by rfl)) (by rfl)) (by rfl) (by rfl) (by rfl) (by rfl)) (by rfl) (by rfl) (by rfl)) (@Ak _ _ _ _ _ (@AH _ _ (7) _ _ _ _ sc__law_least.nd rfl (AD (by rfl)) (Q4 (Q2 (@cx _ 6 _ _ (by rfl)) Af Q1) rfl rfl (λz=>nomatch z) (by decide)) (by rfl) (AE (by rfl))) (@Ak _ _ _ _ _ (@Bp _ _ _ _ _ _ _ _ PassesOwn.never rfl (@KG _ _ _ _ _ (@Ia _ P w K _ _ _ _ _ _ _ _ rfl T.b_zip (@Aq _ _ _ _ _ (@cx _ 1 _ _ (by rfl)) (@cx _ 2 _ _ (by rfl)) (by rfl)) (by rfl) (by rfl) (by rfl) (by rfl) (by rfl)) (Rq P w K rfl T.b_zip (@Aq _ _ _ _ _ (@cx _ 1 _ _ (by rfl)) (@cx _ 2 _ _ (by rfl)) (by rfl)))) (@AC _ K _ _ _ (2) _ (@Ah _ _ _ _ _ (@Ag _ _ _ 8 sc__law_least.nd (by rfl)) (@Ah _ _ _ _ _ (@Ag _ _ _ 9 sc__law_least.nd (by rfl)) (@AA _) (by rfl)) (by rfl)) (by rfl) (by rfl) (by rfl) (by rfl)) (@Ak _ _ _ _ _ (@Fo _ _ (10) (11) _ _ _ _ _ _ _ _ _ _ _ rfl sc__law_least.nd rfl rfl (by decide) rfl rfl (@Aq _ _ _ _ _ Lv (@Aj _ _ _ _ _ _ _ _ _ _ D__law_costs (hr.mono (by decide)) rfl (@Al _ _ _ (Rs (Rr P w K rfl T.b_list rfl T.b_zip (@Aq _ _ _ _ _ (@cx _ 0 _ _ (by rfl)) (@cx _ 8 _ _ (by rfl)) (by rfl))) (Rt P w K rfl T.b_list rfl T.b_zip (@Aq _ _ _ _ _ (@cx _ 0 _ _ (by rfl)) (@cx _ 8 _ _ (by rfl)) (by rfl)))) (by rfl)) (by decide) (by rfl) (by rfl)) (by rfl)) (by rfl) (by rfl)) (@Ak _ _ _ _ _ (@Bp _ _ _ _ _ _ _ _ PassesOwn.never rfl (Il (Rb (@cx _ 7 _ _ (by rfl)))) (@AC _ K _ _ _ (2) _ (@Ah _ _ _ _ _ (@Ag _ _ _ 12 sc__law_least.nd (by rfl)) (@Ah _ _ _ _ _ (@Ag _ _ _ 13 sc__law_least.nd (by rfl)) (@AA _) (by rfl)) (by rfl)) (by rfl) (by rfl) (by rfl) (by rfl)) (@Ao _ _ _ (@Bp _ _ _ _ _ _ _ _ PassesOwn.never rfl (@O7 _ P w K _ _ _ _ _ _ _ rfl T.b_enumerate (@Al _ _ _ (@cx _ 11 _ _ (by rfl)) (by rfl)) (by rfl) (by rfl) (by rfl) (by rfl)) (@AC _ K _ _ _ (2) _ (@Ah _ _ _ _ _ (@Ag _ _ _ 14 sc__law_least.nd (by rfl)) (@Ah _ _ _ _ _ (@Ag _ _ _ 15 sc__law_least.nd (by rfl)) (@AA _) (by rfl)) (by rfl)) (by rfl) (by rfl) (by rfl) (by rfl)) (@Ak _ _ _ _ _ (@AH _ _ (16) _ _ _ _ sc__law_least.nd rfl (AD (by rfl)) (@AI _ _ _ _ _ _ _ _ _ (@Fv _ rfl) rfl T.b_min boot_min (@Aq _ _ _ _ _ (@cx _ 5 _ _ (by rfl)) (@As _ _ _ _ _ _ _ _ (@Bh _) (@As _ _ _ _ _ _ _ _ (@AO _) (@cx _ 12 _ _ (by rfl)) (@cx _ 14 _ _ (by rfl))) (@cx _ 9 _ _ (by rfl))) (by rfl)) (by decide) (by decide) (by rfl) (by rfl)) (by rfl) (AE (by rfl))) (@Ao _ _ _ (@A5 _ _ _ _ _ _ _ _ (@PW.pt _ _ _ (@FO _ _ _ _ _ _ _ (@A4 _ _ _ _ _ _ _ _ (@J9 _) (@cx _ 16 _ _ (by rfl)) (@cx _ 4 _ _ (by rfl)) (A3 _)) (@Hq _ _ _ _ (@A4 _ _ _ _ _ _ _ _ (@DU _) (@As _ _ _ _ _ _ _ _ (@AO _) (@cx _ 13 _ _ (by rfl)) (@cx _ 15 _ _ (by rfl))) (Q8 (Lz hr) (@cx _ 10 _ _ (by rfl)) (@cx _ 16 _ _ (by rfl)) (@As _ _ _ _ _ _ _ _ (@HV _) (@Af _ _ _ _) (@Af _ _ _ _)) ⟨rfl,rfl,rfl,rfl⟩) (A3 _))))) (@Ao _ _ _ (QZ (Lz hr) (@cx _ 10 _ _ (by rfl)) (@cx _ 16 _ _ (by rfl)) (@As _ _ _ _ _ _ _ _ (@AO _) (@cx _ 13 _ _ (by rfl)) (@cx _ 15 _ _ (by rfl))) rfl)) (@A7 _)))) (by intro _;rfl))) (by intro _;rfl)) (@Ao _ _ _ (@AH _ _ (7) _ _ _ _ sc__law_least.nd rfl (AD (by rfl)) (@cx _ 10 _ _ (by rfl)) (by rfl) (AE (by rfl)))))) (by intro _;rfl)) (@Ao _ _ _ (@Ax _ _ _ _ (@EO _ _ _ _ _ _ _ _ (@A4 _ _ _ _ _ _ _ _ (Re (Q9 hr)) (@cx _ 7 _ _ (by rfl)) Lv (A3 _)) (@AI _ _ _ _ _ _ _ _ _ (@PR _ rfl) rfl T.b_min boot_min (@Al _ _ _ (@As _ _ _ _ _ _ _ _ (@KK _) (@BB _ _ _ _ _ _ _ _ _ (Rx rfl) rfl T.b_list HX (@Al _ _ _ (Rg (@cx _ 7 _ _ (by rfl))) (by rfl)) (by decide) (by decide) (by rfl) (by rfl)) (@El _ _ _ _ (@Al _ _ _ (@As _ _ _ _ _ _ _ _ (@HV _) (@Af _ _ _ _) (@Af _ _ _ _)) (by rfl)))) (by rfl)) (by decide) (by decide) (by rfl) (by rfl)) (@Dj _ _ _))))))),?_⟩
 unfold I9 at h
 split at h
 ·rename_i O C D M
  obtain⟨T,fl,h1,sh,n0,hO,fd,hD,hM,qn,qs⟩:=h
  obtain⟨CA,cx,e,lcx,fd⟩:=fd
  cases e
  have rows:∀i,i<T.cs.length->∃ra,cx[i]? =some (.ref ra)/\(H ra=some (.tup ((T.cs.getD i []).map V.int))\/H ra=some (.lst ((T.cs.getD i []).map V.int))):=λi hi=>by
   have e1:T.cs[i]? =some (T.cs.getD i []):=by rw [List.getD_eq_getElem?_getD,List.getElem?_eq_getElem hi];rfl
   have e2:cx[i]? =some (cx[i]'(by omega)):=List.getElem?_eq_getElem _
   rcases fd with⟨_,z⟩ | ⟨_,z⟩
   ·obtain⟨a,ea,k⟩:=z i _ _ e1 e2
    exact⟨a,by rw [e2,ea],.inl k⟩
   ·obtain⟨a,ea,k⟩:=z i _ _ e1 e2
    exact⟨a,by rw [e2,ea],.inr k⟩
  have l8:=fl.ok.l8
  have lc:=fl.ok.lc
  have l0:=fl.l0
  have h4:=fl.h4
  have lh:T.lo<=T.hi:=by omega
  have o4:=fl.o
  refine⟨M,_,rfl,Ae.of hM,rfl,_,_,rfl,_,_,rfl,_,_,rfl,rfl,λG0 hG0=>⟨Ai,[(.inl T.st,.int 0)],rfl,(show 1<=15 from by decide),?_⟩⟩
  have s0:Ab H (upd (upd H G0 (.dK [])) G0 (.dK (DC [] [(.inl T.st,.int 0)]))):=Fh (Ab.new hG0) hG0
  have k0:upd (upd H G0 (.dK [])) G0 (.dK (DC [] [(.inl T.st,.int 0)])) G0=some (.dK (AT [(T.st,0)])):=Ai
  generalize upd (upd H G0 (.dK [])) G0 (.dK (DC [] [(.inl T.st,.int 0)]))=H0 at s0 k0 ⊢
  have dd:(∀H',Ab H H'->(BE P w K).Sq H' C cx)\/(∀H',Ab H H'->(BO P w K).Sq H' C cx):=by
   rcases fd with⟨k,_⟩ | ⟨k,_⟩
   ·exact .inl λH' s=>Ae.of (s _ _ k)
   ·exact .inr λH' s=>An.of (s _ _ k)
  refine Tw (B:=H) (a:=C) (b:=D) (xs:=cx) (ys:=T.ds.map V.int) (λk=>rfl) s0 (Ae.of (s0 _ _ hD)) dd λS2 hS2=>Ij (xs:=cx) (ys:=T.ds.map V.int) (λi σ H'=>∃G t,(∃x8 x9 x10 x11 x12 x13 x14 x15 x16,σ=[some (.ref O),some (.ref C),some (.ref D),some (.ref M),some (.int T.lo),some (.int T.hi),some (.int T.st),some (.ref G),x8,x9,x10,x11,x12,x13,x14,x15,x16])/\H G=none/\H' G=some (.dK (AT t))/\Mn (LvT T i) t/\Ab H H') (by rw [List.length_map];omega) ⟨G0,[(T.st,0)],⟨_,_,_,_,_,_,_,_,_,rfl⟩,hG0,k0,Mn.one (LvT.zero fl),s0⟩ (λi σ H' h=>by
    obtain⟨G,t,_,_,_,_,s⟩:=h
    exact⟨hS2 _ s,Ae.of (s _ _ hD)⟩) (λi x y σ H1 T1 hx hy h hT1=>?_) fun σ H1 h=>?_
  ·obtain⟨G,t,⟨x8,x9,x10,x11,x12,x13,x14,x15,x16,rfl⟩,hG,kG,mn,s1⟩:=h
   obtain⟨d,hd,rfl⟩:=Tv hy
   have hi:i<T.ds.length:=(List.getElem?_eq_some_iff.mp hd).1
   obtain⟨ra,hra,kra⟩:=rows i (by omega)
   rw [hx] at hra
   cases hra
   have ed:T.ds.getD i 0=d:=by rw [List.getD_eq_getElem?_getD,hd];rfl
   have nT1:=Ab.new (o:= .tup [.ref ra,.int d]) hT1
   have crow:=Dd fl hi
   have brow:=(fl.c _ (getD_mem (l:=T.cs) (i:=i) (d:=[]) (by omega))).2
   refine⟨T1,_,rfl,Ae.of Ai,rfl,_,_,rfl,_,_,rfl,rfl,λM2 hM2=>?_⟩
   have s2:=s1.trans nT1
   have kG2:=nT1 _ _ kG
   generalize upd H1 T1 (.tup [.ref ra,.int d])=H2 at s2 kG2 hM2 ⊢
   have hM2b:H M2=none:=G8 s2 hM2
   have nGM:G≠M2:=A2 kG2 hM2
   have nM2:=Ab.new (o:= .dK []) hM2
   have s3:=s2.trans nM2
   have kG3:=nM2 _ _ kG2
   have kM3:upd H2 M2 (.dK []) M2=some (.dK (AT [])):=Ai
   generalize upd H2 M2 (.dK [])=H3 at s3 kG3 kM3 ⊢
   refine Ru (a:=O) (b:=ra) (xs:=T.co.map V.int) (ys:=(T.cs.getD i []).map V.int) (λk=>rfl) (An.of (s3 _ _ hO)) (kra.elim (λz=> .inl (Ae.of (s3 _ _ z))) λz=> .inr (An.of (s3 _ _ z))) (by rw [List.length_map,List.length_map];omega) (by rw [List.length_map];omega) λL4 H4 Ts s4 hL4 kL4 lTs zd=>?_
   refine⟨Ts,T.co.zip (T.cs.getD i []),kL4,by rw [lTs,List.length_map];exact o4,Ty lTs crow.symm zd,λc hc=>?_,λL5 H5 cs' pm pw s5 hL5 kL5=>⟨_,_,rfl,?_⟩⟩
   ·exact brow c.2 (List.of_mem_zip hc).2
   have ma:Mn (AttP (T.co.zip (T.cs.getD i []))) (Bi cs'):=Mn.costs pm pw λc hc=>(brow c.2 (List.of_mem_zip hc).2).1
   have s35:=s4.trans s5
   have sH5:=s3.trans s35
   have kG5:=s35 _ _ kG3
   have kM5:=s35 _ _ kM3
   have hL5b:H L5=none:=G8 (s3.trans s4) hL5
   have nLM:L5≠M2:=λz=>by rw [z,kM5] at kL5;cases kL5
   have nLG:L5≠G:=λz=>by rw [z,kG5] at kL5;cases kL5
   refine⟨G,_,rfl,kG5,λo=>⟨G,o,_,rfl,Ai,?_⟩⟩
   have s7:Ab H (upd H5 G (.frz o (.dK (AT t)))):=Fh sH5 hG
   have kG7:upd H5 G (.frz o (.dK (AT t))) G=some (.frz o (.dK (AT t))):=Ai
   have kM7:upd H5 G (.frz o (.dK (AT t))) M2=some (.dK (AT [])):=by rw [Ap (Ne.symm nGM)];exact kM5
   have kL7:upd H5 G (.frz o (.dK (AT t))) L5=some (.lst ((Bi cs').map λq=>V.int q.2)):=by rw [Ap nLG];exact kL5
   generalize upd H5 G (.frz o (.dK (AT t)))=H7 at s7 kG7 kM7 kL7 ⊢
   have lB:∀(i k:Nat) z,LsL T.lo T.hi d t (Bi cs') i k z->0<=z.1/\z.1<=100:=λi k z ⟨_,_,g',a',_,_,h3,h4',_⟩=>by
    rw [h4'];show 0<=min T.hi (g'.1+a'.1-d)/\min T.hi (g'.1+a'.1-d)<=100;omega
   have tB:∀g∈t,0<=g.2/\g.2<=5760:=λg hg=>(mn.snd g hg).bd fl (Nat.le_of_lt hi)
   have aB:∀a∈Bi cs',0<=a.2/\a.2<=720:=λa ha=>by
    have:=Mz (L:=T.co.zip (T.cs.getD i [])) (λc hc=>⟨(fl.o1 c.1 (List.of_mem_zip hc).1).1,(fl.o1 c.1 (List.of_mem_zip hc).1).2,(brow c.2 (List.of_mem_zip hc).2).2⟩) (ma.snd a ha)
    have lz:(T.co.zip (T.cs.getD i [])).length<=4:=by rw [List.length_zip];omega
    omega
   refine Rc (λi2 σ H'=>∃m,(∃x12 x13 x14 x15 x16,σ=[some (.ref O),some (.ref C),some (.ref D),some (.ref M),some (.int T.lo),some (.int T.hi),some (.int T.st),some (.ref G),some (.ref ra),some (.int d),some (.ref M2),some (.ref L5),x12,x13,x14,x15,x16])/\H' M2=some (.dK (AT m))/\H' G=some (.frz o (.dK (AT t)))/\H' L5=some (.lst ((Bi cs').map λq=>V.int q.2))/\Mn (LsL T.lo T.hi d t (Bi cs') i2 0) m/\Ab H H') ⟨[],⟨_,_,_,_,_,rfl⟩,kM7,kG7,kL7,Mn.nil LsL.zero,s7⟩ (λi σ H' ⟨_,_,_,k,_⟩=>k) (λi2 q' σ H8 T2 hq h hT2=>?_) fun σ H8 h=>?_
   ·obtain⟨m,⟨x12,x13,x14,x15,x16,rfl⟩,kM8,kG8,kL8,mm,s8⟩:=h
    obtain⟨g,hg,rfl⟩:=Tr hq
    have sT2:=Ab.new (o:= .tup [kV (Sum.inl g.1),.int g.2]) hT2
    refine⟨T2,_,rfl,Ae.of Ai,rfl,_,_,rfl,_,_,rfl,rfl,?_⟩
    have s9:=s8.trans sT2
    have kM9:=sT2 _ _ kM8
    have kG9:=sT2 _ _ kG8
    have kL9:=sT2 _ _ kL8
    generalize upd H8 T2 (.tup [kV (Sum.inl g.1),.int g.2])=H9 at s9 kM9 kG9 kL9 ⊢
    have gB:=tB g (List.mem_of_getElem? hg)
    refine⟨L5,rfl,⟨_,An.of kL9⟩,for_enum (xs:=(Bi cs').map λq=>V.int q.2) (λk σ H'=>∃m,(∃x14 x15 x16,σ=[some (.ref O),some (.ref C),some (.ref D),some (.ref M),some (.int T.lo),some (.int T.hi),some (.int T.st),some (.ref G),some (.ref ra),some (.int d),some (.ref M2),some (.ref L5),some (.int g.1),some (.int g.2),x14,x15,x16])/\H' M2=some (.dK (AT m))/\H' G=some (.frz o (.dK (AT t)))/\H' L5=some (.lst ((Bi cs').map λq=>V.int q.2))/\Mn (LsL T.lo T.hi d t (Bi cs') i2 k) m/\Ab H H') ⟨m,⟨_,_,_,rfl⟩,kM9,kG9,kL9,mm,s9⟩ (λk σ H' ⟨_,_,_,_,kk,_⟩=>An.of kk) (λk y σ H10 T3 hy h hT3=>?_) fun σ H10 h=>?_⟩
    ·obtain⟨m7,⟨x14,x15,x16,rfl⟩,kM10,kG10,kL10,mm7,s10⟩:=h
     obtain⟨ha,rfl⟩:=TC hy
     have cB:=aB _ (List.mem_of_getElem? ha)
     have cB':0<=AY cs' (k:Int)/\AY cs' (k:Int)<=720:=cB
     have sT3:=Ab.new (o:= .tup [.int (k:Int),.int (AY cs' (k:Int))]) hT3
     refine⟨T3,_,rfl,Ae.of Ai,rfl,_,_,rfl,_,_,rfl,rfl,_,_,rfl,?_⟩
     have s11:=s10.trans sT3
     have kM11:=sT3 _ _ kM10
     have kG11:=sT3 _ _ kG10
     have kL11:=sT3 _ _ kL10
     generalize upd H10 T3 (.tup [.int (k:Int),.int (AY cs' (k:Int))])=H11 at s11 kM11 kG11 kL11 ⊢
     rw [Tz]
     refine⟨λle=>?_,λle=>?_⟩
     ·have le:=of_decide_eq_true le
      have lm:=mm7.len (lB _ _)
      refine⟨M2,rfl,.inl ⟨_,.inl kM11⟩,⟨by decide,by decide,by decide⟩,_,DGet.k (k:= .inl (min T.hi (g.1+(k:Int)-d))) kM11,?_⟩
      rw [Tq]
      have e9:(10:Int) ^ Int.toNat 9=1000000000:=by decide
      refine⟨λlt=>?_,λlt=>?_⟩
      ·have lt:=of_decide_eq_true lt
       rw [e9] at lt
       refine⟨M2,_,rfl,DPut.k (k:= .inl (min T.hi (g.1+(k:Int)-d))) kM11 (by rw [Ms,sizeLine_eq];omega),Er m7 (min T.hi (g.1+(k:Int)-d)) (g.2+AY cs' (k:Int)),⟨_,_,_,rfl⟩,?_,?_,?_,(mm7.less _ _ (by omega)).congr (LsL.step hg ha le),Fh s11 hM2b⟩
       ·rw [Ai,Tp]
        unfold Er
        rw [if_pos lt]
       ·rw [Ap nGM];exact kG11
       ·rw [Ap nLM];exact kL11
      ·have lt:=of_decide_eq_false lt
       rw [e9] at lt
       refine⟨Er m7 (min T.hi (g.1+(k:Int)-d)) (g.2+AY cs' (k:Int)),⟨_,_,_,rfl⟩,?_,kG11,kL11,(mm7.less _ _ (by omega)).congr (LsL.step hg ha le),s11⟩
       unfold Er
       rw [if_neg lt]
       exact kM11
     ·have le:=of_decide_eq_false le
      exact⟨λc=>(by cases c),λ_=>⟨m7,⟨_,_,_,rfl⟩,kM11,kG11,kL11,mm7.congr (LsL.skip hg ha le),s11⟩⟩
    ·obtain⟨m7,⟨x14,x15,x16,rfl⟩,kM10,kG10,kL10,mm7,s10⟩:=h
     refine⟨m7,⟨_,_,_,_,_,rfl⟩,kM10,kG10,kL10,?_,s10⟩
     rw [List.length_map] at mm7
     exact mm7.congr LsL.turn
   ·obtain⟨m,⟨x12,x13,x14,x15,x16,rfl⟩,kM8,kG8,kL8,mm,s8⟩:=h
    rw [Ms] at mm
    rw [<-ed] at mm
    exact⟨M2,m,⟨_,_,_,_,_,_,_,_,_,rfl⟩,hM2b,kM8,Mn.hourT fl hi mn ma mm,s8⟩
  ·obtain⟨G,t,⟨x8,x9,x10,x11,x12,x13,x14,x15,x16,rfl⟩,hG,kG,mn,s1⟩:=h
   rw [show cx.length=T.ds.length from by omega] at mn
   obtain⟨m1,m2⟩:=RP fl h1 sh n0 mn
   refine λN hN=>⟨G,N,_,rfl,rfl,.inl ((Ab.new hN) _ _ kG),.inl Ai,?_⟩
   have sN:=Ab.new (o:= .dK []) hN
   have s2:=s1.trans sN
   have kG2:=sN _ _ kG
   generalize upd H1 N (.dK [])=H2 at s2 kG2 ⊢
   have no1:t≠ []->AK T=none:=λne=>by
    cases z:AK T with
    | none=>rfl
    | some s0=>exact absurd (m1 (by rw [z];intro c;cases c)) ne
   refine⟨λne=>?_,λe=>qn (λz=>?_) _ s2⟩
   ·have tn:t≠ []:=λz=>by rw [z] at ne;cases ne
    have no:=no1 tn
    have ol:=(m2 no).2
    have tB:∀g∈t,0<=g.2/\g.2<=5760:=λg hg=>(mn.snd g hg).bd fl (Nat.le_refl _)
    have ev:(AT t).map (·.2)=(t.map (·.2)).map V.int:=by unfold AT;rw [List.map_map,List.map_map];rfl
    refine⟨G,_,rfl,.inl kG2,λvv hv=>⟨vv,G,_,rfl,Ai,.inl ((Ab.new hv) _ _ kG2),λl hl=>?_⟩⟩
    rw [ev]
    have nv:=Ab.new (o:=EZ vv G) hv
    have nl:=Ab.new (o:= .lst ((t.map (·.2)).map V.int)) hl
    refine⟨⟨by decide,by decide,by decide⟩,λL9 H9 s9 hL9 k9=>⟨l,L9,_,_,rfl,rfl,s9 _ _ Ai,k9,?_,λLc Hc' sc' hLc kc=>?_⟩⟩
    ·have lt:=mn.len λq hq=>by
      obtain⟨F,rt,up,rfl⟩:=hq
      have u1:=up (T.ds.length-1) (by omega)
      rw [show T.ds.length-1+1=T.ds.length from by omega] at u1
      have u2:mT T F (T.ds.length-1+1)<=T.hi:=II
      rw [show T.ds.length-1+1=T.ds.length from by omega] at u2
      show 0<=mT T F T.ds.length/\mT T F T.ds.length<=100
      omega
     exact Nat.le_trans (by rw [List.length_map,List.length_map];show t.length+1<=1000;omega) (by decide:1000<=sizeLine)
    ·have ec:(t.map (·.2)).map V.int++[V.int (10 ^(9:Int).toNat)]=(t.map (λq:Int×Int=>q.2)++[1000000000]).map V.int:=by rw [List.map_append];rfl
     rw [ec] at kc
     refine⟨Lc,_,rfl,kc,λz=>(by simp at z),λm hm hall=>?_⟩
     have hmt:m∈t.map (·.2):=by
      rcases List.mem_append.mp hm with z | z
      ·exact z
      ·rw [List.mem_singleton.mp z] at hall
       cases t with
       | nil=>exact absurd rfl tn
       | cons g r=>
        have h1:=hall g.2 (List.mem_append_left _ (List.mem_map.mpr ⟨g,List.mem_cons_self,rfl⟩))
        have h2:=tB g List.mem_cons_self
        omega
     exact qs no m _ (λf ps hf=>ol f ps hf m hmt λx hx=>hall x (List.mem_append_left _ hx)) (s2.trans (nv.trans (nl.trans (s9.trans sc'))))
   ·have te:t=[]:=by
     cases t with
     | nil=>rfl
     | cons _ _=>cases e
    exact(m2 z).1 te
 ·exact h.elim
theorem TN:Ay ["_law_plant_here"] ["_law_plant_here"] (Aw s__law_coals):=AB
abbrev Hj (P:Program) (w:World) (K:PySem.W.Frag) (mg:Str->Option Value) (base:Heap):Prop:=Fn P w K mg base 1 "_law_coals" ["_law_plant_here"] Ja
theorem TQ (F:Df K mg "_law_coals" s__law_coals ["_law_plant_here"]) (T:Tx mg)  :Hj P w K mg base:=by
 refine F.fn TN (λvs H Q E h=>?_) (λf cdv A outer s H vs Q E hr h=>?_)
 ·unfold Ja at h;split at h;rfl;exact h.elim
 refine⟨_,(@Ao _ _ _ (@Ax _ _ _ _ (@Bx _ _ _ _ _ _ _ _ _ _ _ ["_law_make","_law_coal_here"] [none,none] rfl (@BW _ K _ _ _ (@AF _ _ _ _ _ _ _ (@AW _ K (by rfl)) (@cx _ 0 _ _ (by rfl)) (@Af _ _ _ _) (λ_ _=>rfl)) (by rfl)) (AS.of rfl) (λ_ _ _ _=>(@AC _ K _ _ _ (2) _ (@Ah _ _ _ _ _ (@Ag _ _ _ 0 (AN (by rfl)) (by rfl)) (@Ah _ _ _ _ _ (@Ag _ _ _ 1 (AN (by rfl)) (by rfl)) (@AA _) (by rfl)) (by rfl)) (by rfl) (by rfl) (by rfl) (by rfl))) (λ_ _ _ _=>(@Bq _)) (λ_ _ _ _=>(@cx _ 1 _ _ (by rfl))) (by intro _;rfl)))),?_⟩
 unfold Ja at h
 split at h
 ·rename_i v
  obtain⟨p,P,ok,r,q⟩:=h
  have b4:=ok.b4
  obtain⟨PA,PB,PE,PM,xb,xe,rfl,pA,pB,rb,pE,re,pM⟩:=Aa.plant r
  have lb:=rb.len
  rw [List.length_map] at lb
  refine⟨PA,_,0,.ref PB,rfl,rfl,Ae.of pA,rfl,PB,rfl,⟨xb,Ae.of pB⟩,B4 (xs:=xb) (λi ys H'=>Ab H H'/\ys=((P.bs.map (·.2)).take i).map V.int) (by omega) ⟨Ab.refl _,rfl⟩ (λi ys H' h=>by rw [h.2,List.length_map,List.length_take];omega) (λi ys H' _ h=>Ae.of (h.1 _ _ pB)) (λi x ys H' hx h=>?_) λys H2 h=>?_⟩
  ·obtain⟨f,hf,rd⟩:=Ad.mapGot rb hx
   obtain⟨l,zs,rfl,hl',rz⟩:=Aa.shape (Aa.ev (Ev.same h.1) _ _ rd)
   obtain⟨y1,y2,rfl,r1,r2⟩:=Ad.two rz
   unfold Aa at r1 r2
   subst r1 r2
   refine⟨l,_,rfl,Ae.of hl',rfl,_,_,rfl,_,_,rfl,rfl,trivial,λ_=>⟨h.1,?_⟩,λz=>by cases z⟩
   have hf':(P.bs.map (·.2))[i]? =some f.2:=by rw [List.getElem?_map,hf];rfl
   rw [Bk hf',List.map_append,h.2];rfl
  intro L hL
  refine q L _ (h.1.trans (Ab.new hL)) (G8 h.1 hL) ?_
  rw [Ai,h.2,List.take_of_length_le (by rw [List.length_map];omega)]
 ·exact h.elim
theorem TR:Ay ["_law_plant_here","_law_story_here"] ["_law_plant_here","_law_story_here"] (Aw s__law_coal):=AB
theorem TU (F:Df K mg "_law_coal" s__law_coal ["_law_plant_here","_law_story_here"]) (T:Tx mg) (D__law_caps:Fc P w K mg base) (D__law_coals:Hj P w K mg base) (D__law_draws:Ff P w K mg base) (D__law_least:Hi P w K mg base):Fn P w K mg base 3 "_law_coal" ["_law_plant_here","_law_story_here"] Fi:=by
 refine F.fn TR (λvs H Q E h=>?_) (λf cdv A outer s H vs Q E hr h=>?_)
 ·unfold Fi at h;split at h;rfl;exact h.elim
 refine⟨_,(@Ao _ _ _ (@Ax _ _ _ _ (@Aj _ _ _ _ _ _ _ _ _ _ D__law_least (hr.mono (by decide)) rfl (@BI _ _ _ _ _ _ _ _ _ (@Aj _ _ _ _ _ _ _ _ _ _ D__law_coals (hr.mono (by decide)) rfl (@Al _ _ _ (@cx _ 0 _ _ (by rfl)) (by rfl)) (by decide) (by rfl) (by rfl)) (@Aj _ _ _ _ _ _ _ _ _ _ D__law_caps (hr.mono (by decide)) rfl (@Aq _ _ _ _ _ (@cx _ 0 _ _ (by rfl)) (@cx _ 1 _ _ (by rfl)) (by rfl)) (by decide) (by rfl) (by rfl)) (@Aj _ _ _ _ _ _ _ _ _ _ D__law_draws (hr.mono (by decide)) rfl (@Aq _ _ _ _ _ (@cx _ 0 _ _ (by rfl)) (@cx _ 1 _ _ (by rfl)) (by rfl)) (by decide) (by rfl) (by rfl)) (@AF _ _ _ _ _ _ _ (@AW _ K (by rfl)) (@cx _ 0 _ _ (by rfl)) (@Af _ _ _ _) (λ_ _=>rfl)) (by rfl)) (by decide) (by rfl) (by rfl)))),?_⟩
 unfold Fi at h
 split at h
 ·rename_i v u
  obtain⟨p,P,S,tw,q⟩:=h
  have ok:=tw.ok
  have so:=tw.so
  have ldd:(draws P S).length=S.ex.length:=BH
  have x1:=so.x1
  refine⟨p,P,ok,tw.r,λL H1 s1 hL kL=>⟨p,P,S,ok,so,(tw.sm s1).r,(tw.sm s1).ru,λc H2 s2 rc=>⟨p,P,S,ok,so,(tw.sm (s1.trans s2)).r,(tw.sm (s1.trans s2)).ru,λd H3 s3 rd=>?_⟩⟩⟩
  have s13:=s1.trans (s2.trans s3)
  have rc3:=Aa.ev (Ev.same s3) _ _ rc
  obtain⟨PA,PB,PE,PM,xb,xe,rfl,pA,pB,rb,pE,re,pM⟩:=Aa.plant (tw.sm s13).r
  obtain⟨CA,cx,rfl,hC,rcs⟩:=Aa.firing (F:=caps P S) rc3
  obtain⟨D,rfl,hD⟩:=Aa.ofRow (r:=draws P S) rd
  exact⟨PA,_,2,.ref PM,rfl,rfl,Ae.of pA,rfl,terms P S,C8 ok so,ok.ls,ok.sh,by show 0<(draws P S).length;omega,(s2.trans s3) _ _ kL,Feed.of rc3,hD,pM,λno=>absurd tw.no no,λ_ c H4 lc s4=>q c _ lc (s13.trans s4)⟩
 ·exact h.elim
theorem sc__law_mains_due:Ay ["_law_plant_here","_law_story_here","_law_low","_law_high","_law_start","_law_base","_law_found","_law_main","_law_caps_here","_law_draws_here"] ["_law_plant_here","_law_story_here"] (Aw s__law_mains_due):=AB
theorem TV (F:Df K mg "_law_mains_due" s__law_mains_due ["_law_plant_here","_law_story_here"]) (T:Tx mg) (D__law_caps:Fc P w K mg base) (D__law_coal:Fn P w K mg base 3 "_law_coal" ["_law_plant_here","_law_story_here"] Fi) (D__law_coals:Hj P w K mg base) (D__law_draws:Ff P w K mg base) (D__law_least:Hi P w K mg base):Fn P w K mg base 4 "_law_mains_due" ["_law_plant_here","_law_story_here"] Hf:=by
 refine F.fn sc__law_mains_due (λvs H Q E h=>?_) (λf cdv A outer s H vs Q E hr h=>?_)
 ·unfold Hf at h;split at h;rfl;exact h.elim
 refine⟨_,(@Ak _ _ _ _ _ (@A1 _ _ _ _ _ _ (@AF _ _ _ _ _ _ _ (@AW _ K (by rfl)) (@cx _ 0 _ _ (by rfl)) (@Af _ _ _ _) (λ_ _=>rfl)) (@AC _ K _ _ _ (3) _ (@Ah _ _ _ _ _ (@Ag _ _ _ 2 sc__law_mains_due.nd (by rfl)) (@Ah _ _ _ _ _ (@Ag _ _ _ 3 sc__law_mains_due.nd (by rfl)) (@Ah _ _ _ _ _ (@Ag _ _ _ 4 sc__law_mains_due.nd (by rfl)) (@AA _) (by rfl)) (by rfl)) (by rfl)) (by rfl) (by rfl) (by rfl) (by rfl)) (by rfl) (by rfl) (by rfl)) (@Ak _ _ _ _ _ (@Fo _ _ (5) (6) _ _ _ _ _ _ _ _ _ _ _ rfl sc__law_mains_due.nd rfl rfl (by decide) rfl rfl (@Aq _ _ _ _ _ (@Aj _ _ _ _ _ _ _ _ _ _ D__law_coal (hr.mono (by decide)) rfl (@Aq _ _ _ _ _ (@cx _ 0 _ _ (by rfl)) (@cx _ 1 _ _ (by rfl)) (by rfl)) (by decide) (by rfl) (by rfl)) (@El _ _ _ _ (@Cu _)) (by rfl)) (by rfl) (by rfl)) (@Ak _ _ _ _ _ (@Bp _ _ _ _ _ _ _ _ PassesOwn.never rfl (@FU _ K _ _ _ (@El _ _ _ _ (@AG _ _ _ _ _ _ _ (@C6 _ _ _ _ _ (@AG _ _ _ _ _ _ _ (@cx _ 2 _ _ (by rfl)) (@As _ _ _ _ _ _ _ _ (@AO _) (@cx _ 3 _ _ (by rfl)) (@Af _ _ _ _)) (@cx _ 4 _ _ (by rfl)) (by rfl))) (@C6 _ _ _ _ _ (@AG _ _ _ _ _ _ _ (@As _ _ _ _ _ _ _ _ (@Bh _) (@cx _ 2 _ _ (by rfl)) (@Af _ _ _ _)) (@cx _ 3 _ _ (by rfl)) (@cx _ 4 _ _ (by rfl)) (by rfl))) (@C6 _ _ _ _ _ (@AG _ _ _ _ _ _ _ (@cx _ 2 _ _ (by rfl)) (@cx _ 3 _ _ (by rfl)) (@As _ _ _ _ _ _ _ _ (@AO _) (@cx _ 4 _ _ (by rfl)) (@Af _ _ _ _)) (by rfl))) (by rfl))) (by rfl)) (@Ag _ _ _ 7 sc__law_mains_due.nd (by rfl)) (@Ao _ _ _ (@A5 _ _ _ _ _ _ _ _ (@PW.pt _ _ _ (@Kc _ _ _ _ _ _ _ (@A4 _ _ _ _ _ _ _ _ (@DU _) (@AF _ _ _ _ _ _ _ (@AW _ K (by rfl)) (@cx _ 7 _ _ (by rfl)) (@Af _ _ _ _) (λ_ _=>rfl)) (@Af _ _ _ _) (A3 _)) (@Jj _ _ _ _ (@A4 _ _ _ _ _ _ _ _ (@J8 _) (@AF _ _ _ _ _ _ _ (@AW _ K (by rfl)) (@cx _ 7 _ _ (by rfl)) (@Af _ _ _ _) (λ_ _=>rfl)) (@AF _ _ _ _ _ _ _ (@AW _ K (by rfl)) (@cx _ 7 _ _ (by rfl)) (@Af _ _ _ _) (λ_ _=>rfl)) (A3 _))))) (@Ao _ _ _ (@BM _ _ _ _ (@CM _ _ _ _ _ _ _ _ _ _ _ _ PySem.F.plainAttrs_list PySem.F.slot_list_append PySem.F.type_list_append CN (@cx _ 6 _ _ (by rfl)) (@Al _ _ _ (@Dj _ _ _) (by rfl)) (by rfl) (by rfl) (by rfl) (by rfl) (by rfl)) (by rfl))) (@Ak _ _ _ _ _ (@Fo _ _ (8) (9) _ _ _ _ _ _ _ _ _ _ _ rfl sc__law_mains_due.nd rfl rfl (by decide) rfl rfl (@Aq _ _ _ _ _ (@Aj _ _ _ _ _ _ _ _ _ _ D__law_caps (hr.mono (by decide)) rfl (@Aq _ _ _ _ _ (@cx _ 0 _ _ (by rfl)) (@cx _ 1 _ _ (by rfl)) (by rfl)) (by decide) (by rfl) (by rfl)) (@Aj _ _ _ _ _ _ _ _ _ _ D__law_draws (hr.mono (by decide)) rfl (@Aq _ _ _ _ _ (@cx _ 0 _ _ (by rfl)) (@cx _ 1 _ _ (by rfl)) (by rfl)) (by decide) (by rfl) (by rfl)) (by rfl)) (by rfl) (by rfl)) (@Ao _ _ _ (@BM _ _ _ _ (@CM _ _ _ _ _ _ _ _ _ _ _ _ PySem.F.plainAttrs_list PySem.F.slot_list_append PySem.F.type_list_append CN (@cx _ 6 _ _ (by rfl)) (@Al _ _ _ (@As _ _ _ _ _ _ _ _ (@Bh _) (@cx _ 5 _ _ (by rfl)) (@Aj _ _ _ _ _ _ _ _ _ _ D__law_least (hr.mono (by decide)) rfl (@BI _ _ _ _ _ _ _ _ _ (@Aj _ _ _ _ _ _ _ _ _ _ D__law_coals (hr.mono (by decide)) rfl (@Al _ _ _ (@cx _ 0 _ _ (by rfl)) (by rfl)) (by decide) (by rfl) (by rfl)) (@cx _ 8 _ _ (by rfl)) (@cx _ 9 _ _ (by rfl)) (@cx _ 7 _ _ (by rfl)) (by rfl)) (by decide) (by rfl) (by rfl))) (by rfl)) (by rfl) (by rfl) (by rfl) (by rfl) (by rfl)) (by rfl)))))) (by intro _;rfl)) (@Ao _ _ _ (@Ax _ _ _ _ (@cx _ 6 _ _ (by rfl))))))),?_⟩
 unfold Hf at h
 split at h
 ·rename_i v u
  obtain⟨p,P,S,tw,q⟩:=h
  have ok:=tw.ok
  have so:=tw.so
  have ldd:(draws P S).length=S.ex.length:=BH
  have x1:=so.x1
  obtain⟨PA,PB,PE,PM,xb,xe,rfl,pA,pB,rb,pE,re,pM⟩:=Aa.plant tw.r
  refine⟨PA,_,2,.ref PM,rfl,rfl,Ae.of pA,rfl,PM,_,rfl,Ae.of pM,rfl,_,_,rfl,_,_,rfl,_,_,rfl,rfl,?_⟩
  refine⟨p,P,S,tw,λb0 H1 lb0 s1=>λF1 H2 s2 hF kF=>⟨_,_,rfl,?_⟩⟩
  refine λt1 H3 s3 k1=>λt2 H4 s4 k2=>λt3 H5 s5 k3=>λL6 H6 s6 hL6 kL6=>?_
  have hF1:H F1=none:=G8 s1 hF
  have sH6:=s1.trans (s2.trans (s3.trans (s4.trans (s5.trans s6))))
  have kF6:=(s3.trans (s4.trans (s5.trans s6))) _ _ kF
  have k16:=(s4.trans (s5.trans s6)) _ _ k1
  have k26:=(s5.trans s6) _ _ k2
  have k36:=s6 _ _ k3
  have nLF:L6≠F1:=λz=>by
   have:=(s3.trans (s4.trans s5)) _ _ kF
   rw [<-z,hL6] at this;cases this
  have main:∀(j:Nat) x,[V.ref t1,V.ref t2,V.ref t3][j]? =some x->j<3/\∃t,x= .ref t/\H6 t=some (.tup [.int (mU P S j).lo,.int (mU P S j).hi,.int (mU P S j).st]):=λj x hx=>by
   match j,hx with
   | 0,hx=>cases hx;exact⟨by decide,t1,rfl,k16⟩
   | 1,hx=>cases hx;exact⟨by decide,t2,rfl,k26⟩
   | 2,hx=>cases hx;exact⟨by decide,t3,rfl,k36⟩
   | _+3,hx=>cases hx
  refine⟨L6,rfl,⟨_,An.of kL6⟩,Hu (xs:=[.ref t1,.ref t2,.ref t3]) (λi σ G=>∃ys,(∃x7 x8 x9,σ=[some (.ref PA),some u,some (.int P.lo),some (.int P.hi),some (.int P.st),some (.int b0),some (.ref F1),x7,x8,x9])/\ys.length=i/\(∀j y,ys[j]? =some y->EB (terms P S) (mU P S j) (B9 P j) y)/\G F1=some (.lst ys)/\Ev F1 H6 G) ⟨[],⟨_,_,_,rfl⟩,rfl,λj y z=>(by cases z),kF6,Ev.refl⟩ (λi σ G _ h=>by
   obtain⟨_,_,_,_,_,ev⟩:=h
   exact An.of (ev.lst kL6 nLF)) (λi x σ G hx h=>?_) fun σ G h=>?_⟩
  ·obtain⟨ys,⟨y7,y8,y9,rfl⟩,ly,due,kG,ev⟩:=h
   obtain⟨hi3,t,rfl,kt⟩:=main i x hx
   have ktG:=ev.tup kt
   have sG:Ab H G:=Ab.evOwn sH6 hF1 ev
   have twG:=tw.sm sG
   have bad:=TJ (S:=S) ok hi3
   have small:ys.length<sizeLine:=Nat.lt_of_lt_of_le (m:=4) (by omega) (by decide)
   have next:∀ {y:V},EB (terms P S) (mU P S i) (B9 P i) y->∀(j:Nat) (z:V),(ys++[y])[j]? =some z->EB (terms P S) (mU P S j) (B9 P j) z:=λ{y} dy j z hz=>by
    by_cases c:j<ys.length
    ·rw [List.getElem?_append_left c] at hz;exact due j z hz
    ·have lj:=(List.getElem?_eq_some_iff.mp hz).1
     rw [List.length_append,List.length_singleton] at lj
     have ej:j=i:=by omega
     subst ej
     rw [<-ly,List.getElem?_concat_length] at hz
     cases hz
     exact dy
   have none_:B9 P i->∃zs,(∃x7 x8 x9,([some (.ref PA),some u,some (.int P.lo),some (.int P.hi),some (.int P.st),some (.int b0),some (.ref F1),some (.ref t),y8,y9]:L2.St)=[some (.ref PA),some u,some (.int P.lo),some (.int P.hi),some (.int P.st),some (.int b0),some (.ref F1),x7,x8,x9])/\zs.length=i+1/\(∀j y,zs[j]? =some y->EB (terms P S) (mU P S j) (B9 P j) y)/\upd G F1 (.lst (ys++[.non])) F1=some (.lst zs)/\Ev F1 H6 (upd G F1 (.lst (ys++[.non]))):=λb=>⟨ys++[.non],⟨_,_,_,rfl⟩,by rw [List.length_append,ly];rfl,next (.inl ⟨b,rfl⟩),Ai,ev.trans (Ev.pen kG)⟩
   refine⟨t,_,0,.int (mU P S i).lo,rfl,rfl,Ae.of ktG,rfl,⟨λc1=>⟨λ_=>⟨.inl ⟨rfl,_,An.of kG⟩,F1,ys,.non,rfl,rfl,kG,small,none_ (bad.mpr (.inl (of_decide_eq_true c1)))⟩,λz=>(by cases z)⟩,λc1=>⟨t,_,2,.int (mU P S i).st,rfl,rfl,Ae.of ktG,rfl,t,_,1,.int (mU P S i).hi,rfl,rfl,Ae.of ktG,rfl,⟨λc2=>⟨.inl ⟨rfl,_,An.of kG⟩,F1,ys,.non,rfl,rfl,kG,small,none_ (bad.mpr (.inr (of_decide_eq_true c2)))⟩,λc2=>?_⟩⟩⟩⟩
   have good:¬B9 P i:=λb=>(bad.mp b).elim (of_decide_eq_false c1) (of_decide_eq_false c2)
   refine⟨p,P,S,ok,so,twG.r,twG.ru,λcv G1 sa rc=>⟨p,P,S,ok,so,(twG.sm sa).r,(twG.sm sa).ru,λdv G2 sb rd=>⟨_,_,rfl,?_⟩⟩⟩
   have rc2:=Aa.ev (Ev.same sb) _ _ rc
   obtain⟨CA,cx,rfl,hC,rcs⟩:=Aa.firing (F:=caps P S) rc2
   obtain⟨D,rfl,hD⟩:=Aa.ofRow (r:=draws P S) rd
   refine⟨.inl ⟨rfl,_,An.of ((sa.trans sb) _ _ kG)⟩,p,P,ok,(twG.sm (sa.trans sb)).r,λO G3 sc hO kO=>?_⟩
   have s3':=sa.trans (sb.trans sc)
   obtain⟨fl,l1,l2,e1,e2,e3⟩:=MC ok so hi3 good
   refine⟨mU P S i,fl,l1,l2,by rw [e1];omega,by rw [e2];exact kO,by rw [e3];exact(Feed.of rc2).same sc,by rw [e1];exact sc _ _ hD,s3' _ _ ktG,λno=>absurd (MD hi3 tw.no) no,λ_ f G4 lf sd=>?_⟩
   have s4':=s3'.trans sd
   have kG4:=s4' _ _ kG
   exact⟨F1,ys,.int (b0-f),rfl,rfl,kG4,small,ys++[.int (b0-f)],⟨_,_,_,rfl⟩,by rw [List.length_append,ly];rfl,next (.inr ⟨good,MD hi3 tw.no,b0,f,lb0,lf,rfl⟩),Ai,(ev.trans (Ev.same s4')).trans (Ev.pen kG4)⟩
  ·obtain⟨ys,⟨x7,x8,x9,rfl⟩,ly,due,kG,ev⟩:=h
   exact q F1 ys G ly due (Ab.evOwn sH6 hF1 ev) hF1 kG
 ·exact h.elim
theorem sc__law_better:Ay ["_law_plant_here","_law_story_here","_law_boiler","_law_hour","_law_caps_here"] ["_law_plant_here","_law_story_here","_law_boiler","_law_hour"] (Aw s__law_better):=AB
theorem TW (F:Df K mg "_law_better" s__law_better ["_law_plant_here","_law_story_here","_law_boiler","_law_hour"]) (T:Tx mg) (D__law_caps:Fc P w K mg base) (D__law_coal:Fn P w K mg base 3 "_law_coal" ["_law_plant_here","_law_story_here"] Fi) (D__law_coals:Hj P w K mg base) (D__law_draws:Ff P w K mg base) (D__law_least:Hi P w K mg base):Fn P w K mg base 4 "_law_better" ["_law_plant_here","_law_story_here","_law_boiler","_law_hour"] Hg:=by
 refine F.fn sc__law_better (λvs H Q E h=>?_) (λf cdv A outer s H vs Q E hr h=>?_)
 ·unfold Hg at h;split at h;rfl;exact h.elim
 refine⟨_,(@Ak _ _ _ _ _ (@HS _ (4) _ _ _ _ _ _ _ _ _ _ _ _ _ ["_law_row"] [none] sc__law_better.nd rfl (AD (by rfl)) rfl (@BW _ K _ _ _ (@Aj _ _ _ _ _ _ _ _ _ _ D__law_caps (hr.mono (by decide)) rfl (@Aq _ _ _ _ _ (@cx _ 0 _ _ (by rfl)) (@cx _ 1 _ _ (by rfl)) (by rfl)) (by decide) (by rfl) (by rfl)) (by rfl)) (AS.of rfl) (λ_ _ _ _=>(@Ag _ _ _ 0 (AN (by rfl)) (by rfl))) (λ_ _ _ _=>(@Bq _)) (λ_ _ _ _=>(@BB _ _ _ _ _ _ _ _ _ (@O5 _ K (by rfl)) rfl T.b_list HX (@Al _ _ _ (@cx _ 0 _ _ (by rfl)) (by rfl)) (by decide) (by decide) (by rfl) (by rfl))) (by rfl) (AE (by rfl)) (by intro _;rfl)) (@Ak _ _ _ _ _ (@A1 _ _ _ _ _ _ (@As _ _ _ _ _ _ _ _ (@AO _) (@AF _ _ _ _ _ _ _ (@Bu _ K (by rfl)) (@AF _ _ _ _ _ _ _ (@Bu _ K (by rfl)) (@cx _ 4 _ _ (by rfl)) (@cx _ 3 _ _ (by rfl)) (λ_ _=>rfl)) (@cx _ 2 _ _ (by rfl)) (λ_ _=>rfl)) (@Af _ _ _ _)) (@Hs _ _ _ _ _ _ _ (@AF _ _ _ _ _ _ _ (@Bu _ K (by rfl)) (@cx _ 4 _ _ (by rfl)) (@cx _ 3 _ _ (by rfl)) (λ_ _=>rfl)) (@cx _ 2 _ _ (by rfl)) (@HD _) (by intro _;rfl)) (by rfl) (by rfl) (by rfl)) (@Ao _ _ _ (@Ax _ _ _ _ (@As _ _ _ _ _ _ _ _ (@Bh _) (@Aj _ _ _ _ _ _ _ _ _ _ D__law_coal (hr.mono (by decide)) rfl (@Aq _ _ _ _ _ (@cx _ 0 _ _ (by rfl)) (@cx _ 1 _ _ (by rfl)) (by rfl)) (by decide) (by rfl) (by rfl)) (@Aj _ _ _ _ _ _ _ _ _ _ D__law_least (hr.mono (by decide)) rfl (@BI _ _ _ _ _ _ _ _ _ (@Aj _ _ _ _ _ _ _ _ _ _ D__law_coals (hr.mono (by decide)) rfl (@Al _ _ _ (@cx _ 0 _ _ (by rfl)) (by rfl)) (by decide) (by rfl) (by rfl)) (@cx _ 4 _ _ (by rfl)) (@Aj _ _ _ _ _ _ _ _ _ _ D__law_draws (hr.mono (by decide)) rfl (@Aq _ _ _ _ _ (@cx _ 0 _ _ (by rfl)) (@cx _ 1 _ _ (by rfl)) (by rfl)) (by decide) (by rfl) (by rfl)) (@AF _ _ _ _ _ _ _ (@AW _ K (by rfl)) (@cx _ 0 _ _ (by rfl)) (@Af _ _ _ _) (λ_ _=>rfl)) (by rfl)) (by decide) (by rfl) (by rfl))))))),?_⟩
 unfold Hg at h
 split at h
 ·rename_i v u bb hh
  obtain⟨p,P,S,j0,k0,tw,rfl,hj,rfl,hk,q⟩:=h
  have ok:=tw.ok
  have so:=tw.so
  have x8:=so.x8
  have x1:=so.x1
  have b4:=ok.b4
  have b1:=ok.b1
  refine⟨p,P,S,ok,so,tw.r,tw.ru,λc H1 s1 rc=>?_⟩
  obtain⟨CA,cx,rfl,hC,rC⟩:=Aa.firing (F:=caps P S) rc
  have lC:=rC.len
  rw [List.length_map,CO] at lC
  refine⟨CA,rfl,⟨_,Ae.of hC⟩,B4 (xs:=cx) (λi zs H'=>Ab H1 H'/\∃as:List Addr,zs=as.map V.ref/\as.length=i/\(∀(j:Nat) a r,as[j]? =some a->(caps P S)[j]? =some r->H' a=some (.lst (r.map V.int)))/\as.Nodup/\∀a∈as,H a=none/\∃o,H' a=some o) (by omega) ⟨Ab.refl _,[],rfl,rfl,λj a r z=>(by cases z),List.nodup_nil,λa z=>by cases z⟩ (λi zs H' h=>by obtain⟨_,as,e,l,_⟩:=h;rw [e,List.length_map];omega) (λi zs H' _ h=>Ae.of (h.1 _ _ hC)) (λi x zs H2 hx h=>?_) λzs H2 h=>?_⟩
  ·obtain⟨r,hr,rr⟩:=Ad.mapGot rC hx
   obtain⟨s2,as,rfl,la,g,nd,fr⟩:=h
   obtain⟨ra,rfl,hra⟩:=Aa.ofRow rr
   refine⟨trivial,λ_=>⟨ra,_,rfl,.inr (Ae.of (s2 _ _ hra)),λl hl=>?_⟩,λz=>by cases z⟩
   have nl:=Ab.new (o:= .lst (r.map V.int)) hl
   refine⟨s2.trans nl,as++[l],by rw [List.map_append];rfl,by rw [List.length_append,la];rfl,λj a r' ha hr'=>?_,?_,λa ha=>?_⟩
   ·by_cases e:j<as.length
    ·rw [List.getElem?_append_left e] at ha
     exact nl _ _ (g j a r' ha hr')
    ·have hj:=(List.getElem?_eq_some_iff.mp ha).1
     rw [List.length_append,List.length_singleton] at hj
     obtain rfl:j=i:=by omega
     rw [<-la,List.getElem?_concat_length] at ha
     cases ha
     rw [hr] at hr'
     cases hr'
     exact Ai
   ·rw [List.nodup_append]
    refine⟨nd,by simp,λa ha b hb e=>?_⟩
    rw [List.mem_singleton] at hb
    subst hb e
    obtain⟨_,o,ho⟩:=fr _ ha
    rw [hl] at ho;cases ho
   ·rcases List.mem_append.mp ha with ha | ha
    ·obtain⟨f1,o,ho⟩:=fr a ha
     exact⟨f1,o,nl _ _ ho⟩
    ·rw [List.mem_singleton] at ha
     subst ha
     exact⟨s1.free (s2.free hl),_,Ai⟩
  ·obtain⟨s2,as,rfl,la,g,nd,fr⟩:=h
   intro R hR
   have nR:=Ab.new (o:= .lst (as.map V.ref)) hR
   have s3:=s1.trans (s2.trans nR)
   have rows0:Rows H (upd H2 R (.lst (as.map V.ref))) R as (caps P S):=⟨Ai,by rw [la,CO];exact lC.symm,λi a r ha hr=>nR _ _ (g i a r ha hr),nd,λa ha=>⟨(fr a ha).1,λe=>by obtain⟨_,o,ho⟩:=fr a ha;rw [e,hR] at ho;cases ho⟩,s1.free (s2.free hR)⟩
   generalize upd H2 R (.lst (as.map V.ref))=H3 at rows0 s3 ⊢
   obtain⟨er,bd,lr⟩:=I8 (S:=S) ok hk
   have la2:=rows0.l
   rw [CO] at la2
   obtain⟨a,ha⟩:∃a,as[k0]? =some a:=⟨_,List.getElem?_eq_getElem (by omega)⟩
   have ka:=rows0.g k0 a _ ha er
   have hx:((caps P S).getD k0 [])[j0]? =some (((caps P S).getD k0 []).getD j0 0):=TF (by omega)
   refine⟨R,_,k0,.ref a,rfl,rfl,An.of rows0.k,MA ha,a,_,j0,_,rfl,rfl,An.of ka,TD hx,R,_,k0,.ref a,rfl,rfl,An.of rows0.k,MA ha,a,_,j0,j0,rfl,rfl,ka,by rw [List.length_map];exact Pk (by omega),?_⟩
   rw [show((((caps P S).getD k0 []).map V.int).set j0 ((λi j:Int=>V.int (i+j)) (((caps P S).getD k0 []).getD j0 0) 1))=(((caps P S).getD k0 []).set j0 (((caps P S).getD k0 []).getD j0 0+1)).map V.int from map_set]
   have rows4:=rows0.put ha (((caps P S).getD k0 []).set j0 (((caps P S).getD k0 []).getD j0 0+1))
   have s4:Ab H (upd H3 a (.lst ((((caps P S).getD k0 []).set j0 (((caps P S).getD k0 []).getD j0 0+1)).map V.int))):=Fh s3 (rows0.fr a (List.mem_of_getElem? ha)).1
   generalize upd H3 a (.lst ((((caps P S).getD k0 []).set j0 (((caps P S).getD k0 []).getD j0 0+1)).map V.int))=H4 at rows4 s4 ⊢
   have feed:Feed H4 (Bt (terms P S) j0 k0).cs (.ref R):=rows4.feed
   refine⟨p,P,S,tw.sm s4,λc H5 lc s5=>⟨p,P,ok,(tw.sm (s4.trans s5)).r,λO H6 s6 hO kO=>⟨p,P,S,ok,so,(tw.sm (s4.trans (s5.trans s6))).r,(tw.sm (s4.trans (s5.trans s6))).ru,λdv H7 s7 rd=>?_⟩⟩⟩
   have s47:=s5.trans (s6.trans s7)
   have sA:=s4.trans s47
   obtain⟨PA,PB,PE,PM,xb,xe,rfl,pA,pB,rb,pE,re,pM⟩:=Aa.plant (tw.sm sA).r
   obtain⟨D,rfl,hD⟩:=Aa.ofRow (r:=draws P S) rd
   have ldd:(draws P S).length=S.ex.length:=BH
   exact⟨PA,_,2,.ref PM,rfl,rfl,Ae.of pA,rfl,Bt (terms P S) j0 k0,MB ok so hj hk,ok.ls,ok.sh,by show 0<(draws P S).length;omega,s7 _ _ kO,feed.same s47,hD,pM,λno=>absurd (TH ok hj hk tw.no) no,λ_ f H8 lf s8=>q c f _ lc lf (sA.trans s8)⟩
 ·exact h.elim
end
end MF
end
section
namespace MF
open PySem PySem.Spec PyProof.Rows L2
variable {v : V} {T U : TM}
theorem TX {n:Nat} (h:n<=1000):n<=sizeLine:=Nat.le_trans h (by decide)
theorem TY {xs:List V}{lo hi:Option Int} (h:v∈Bw xs lo hi):v∈xs:=by unfold Bw at h;exact List.mem_of_mem_drop (List.mem_of_mem_take h)
def vD:V->PyData
 | .int i=> .int i
 | _=> .none
def SmV (v:V):Prop:=v= .non\/ ∃i,v= .int i/\i.natAbs<10 ^ 6
theorem SmV.rep (h:SmV v) {p:Addr}{H:Hp}:Aa p H (vD v) v:=by
 rcases h with rfl | ⟨i,rfl,_⟩
 ·exact Aa.non
 ·exact Aa.int
theorem SmV.small (h:SmV v):Small 40 0 (vD v):=by
 rcases h with rfl | ⟨i,rfl,b⟩
 ·exact⟨by decide,by decide,rfl⟩
 ·exact Kp b
theorem ME (fl:AL T) (lh:T.lo<=T.hi) (sh:T.st<=T.hi) (n0:0<T.ds.length) (no:AK T=none) {c:Int}{qs:List Int} (hf:CS T c qs):0<=c/\c<=5760:=by
 obtain⟨⟨f,fe,e⟩,_⟩:=LR fl lh sh n0 no hf
 have:=IZ fl (F:=f) ⟨fe.len,λi hi=>⟨fe.row i hi,λb hb=>fe.bd i b hi hb⟩⟩ T.ds.length (Nat.le_refl _)
 have:=fl.ok.l8
 omega
theorem MG (fl:AL T) (fu:AL U) (lh:T.lo<=T.hi) (sh:T.st<=T.hi) (n0:0<T.ds.length) (lh':U.lo<=U.hi) (sh':U.st<=U.hi) (n0':0<U.ds.length) (no:AK T=none) (no':AK U=none) {d:Int} (h:D6 T U d): -5760<=d/\d<=5760:=by
 obtain⟨c,qs,f,ps,h1,h2,e⟩:=h
 have:=ME fl lh sh n0 no h1
 have:=ME fu lh' sh' n0' no' h2
 omega
theorem MH {a b c:V} (ha:SmV a) (hb:SmV b) (hc:SmV c):FR (.list [vD a,vD b,vD c]):=(Pf (ds:=[vD a,vD b,vD c]) (n:=40) (k:=0) (m:=200) (λd hd=>by
 simp only [List.mem_cons,List.not_mem_nil,or_false] at hd
 rcases hd with rfl | rfl | rfl
 ·exact ha.small
 ·exact hb.small
 ·exact hc.small) (show(40+2) * 3+4<=200 from by decide)).nice (by decide) (by decide)
theorem MI {d c f:Int} (h:D6 T U d) (lc:DI T c) (lf:DI U f):d=c-f:=by
 obtain⟨c',qs,f',ps,h1,h2,e⟩:=h
 rw [lc _ _ h1,lf _ _ h2];exact e
def Fj (T U:TM) (bad:Prop) (x:V):Prop:=(bad/\x= .non)\/(¬bad/\AK U=none/\∃d,D6 T U d/\x= .int d)
theorem Jb {bad:Prop}{x y:V} (hx:Fj T U bad x) (hy:EB T U bad y):y=x:=by
 rcases hx with⟨b,rfl⟩ | ⟨nb,_,d,fa,rfl⟩
 ·rcases hy with⟨_,e⟩ | ⟨nb,_⟩
  ·exact e
  ·exact absurd b nb
 ·rcases hy with⟨b,_⟩ | ⟨_,_,c,f,lc,lf,rfl⟩
  ·exact absurd b nb
  ·rw [MI fa lc lf]
theorem Jc {P:PL}{S:SY} (ok:P.ok) (so:S.ok P.bs.length) {j:Nat} (hj:j<3) (no:AK (terms P S)=none) {x:V} (hx:Fj (terms P S) (mU P S j) (B9 P j) x):SmV x:=by
 have ldd:(draws P S).length=S.ex.length:=BH
 have x1:=so.x1
 rcases hx with⟨_,rfl⟩ | ⟨nb,nu,d,fa,rfl⟩
 ·exact .inl rfl
 ·obtain⟨fl,l1,l2,e1,_⟩:=MC ok so hj nb
  have:=MG (C8 ok so) fl (Int.le_trans ok.ls ok.sh) ok.sh (by show 0<(draws P S).length;omega) (Int.le_trans l1 l2) l2 (by rw [e1];omega) no nu fa
  exact .inr ⟨d,rfl,by omega⟩
theorem TZ {ys:List V} (h:ys.length=3):∃a b c,ys=[a,b,c]:=by
 match ys,h with
 | [a,b,c],_=>exact⟨a,b,c,rfl⟩
def sp_lawP (K:PySem.W.Frag):Sp:=λvs H Q _=>match vs with | [.ref a]=>∃ns:List Int,An K H a (ns.map V.int)/\ns.length<=63/\∀H',Q (.bl true) H' | _=>False
theorem T0 {K vs H Q E} (h:sp_lawP K vs H Q E):vs.length=1:=by unfold sp_lawP at h;split at h;rfl;exact h.elim
section
variable {P : Program} {w : World} {K : PySem.W.Frag} {mg : Str -> Option Value} {base : Heap}
theorem sc_law:Ay ["_law_script","_law_cell_here","_law_pen_here","_law_plant_here","_law_story_here","_law_told","_law_hour","_law_boiler"] ["_law_script"] (Aw s_law):=AB
theorem T4 {lf:Addr}{lfd:FuncData} (F:DP K "law" "law" s_law lf lfd) (T:Tx mg) (D__law_better:Fn P w K mg base 4 "_law_better" ["_law_plant_here","_law_story_here","_law_boiler","_law_hour"] Hg) (D__law_cell:Fn P w K mg base 1 "_law_cell" ["_law_script","_law_k"] (Gv K)) (D__law_mains_due:Fn P w K mg base 4 "_law_mains_due" ["_law_plant_here","_law_story_here"] Hf) (D__law_pair:Fn P w K mg base 3 "_law_pair" ["_law_pen_here","_law_most","_law_hours"] GV) (D__law_pen:Fn P w K mg base 1 "_law_pen" ["_law_cell_here"] Gw) (D_better:Fn P w K mg base 11 "better" ["plant","story","boiler","hour"] G7) (D_fuller:Fn P w K mg base 11 "fuller" ["plant","story"] G6) (D_lower:Fn P w K mg base 11 "lower" ["plant","story"] G5) (D_wider:Fn P w K mg base 11 "wider" ["plant","story"] GZ):Cv P w K mg base CX0 12 lf lfd ["_law_script"] (sp_lawP K):=by
 refine F.ok sc_law (λvs H Q E h=>?_) (λcdv A outer s H vs Q E hr h=>?_)
 ·exact T0 h
 refine⟨_,(@Ak _ _ _ _ _ (@Bp _ _ _ _ _ _ _ _ PassesOwn.never rfl (@FU _ K _ _ _ (@As _ _ _ _ _ _ _ _ (@KK _) (@El _ _ _ _ (@Al _ _ _ (@Aj _ _ _ _ _ _ _ _ _ _ D__law_cell (hr.mono (by decide)) rfl (@Aq _ _ _ _ _ (@cx _ 0 _ _ (by rfl)) (@Af _ _ _ _) (by rfl)) (by decide) (by rfl) (by rfl)) (by rfl))) (@Eb _ _ _ _ _ _ _ _ _ _ (@O2 _ K (by rfl)) (@cx _ 0 _ _ (by rfl)) (@CW _ _ _ (@Af _ _ _ _)) (@CW _ _ _ (@Af _ _ _ _)))) (by rfl)) (@Ag _ _ _ 1 sc_law.nd (by rfl)) (@Ak _ _ _ _ _ (@AH _ _ (2) _ _ _ _ sc_law.nd rfl (AD (by rfl)) (@Aj _ _ _ _ _ _ _ _ _ _ D__law_pen (hr.mono (by decide)) rfl (@Al _ _ _ (@cx _ 1 _ _ (by rfl)) (by rfl)) (by decide) (by rfl) (by rfl)) (by rfl) (AE (by rfl))) (@Ak _ _ _ _ _ (@A1 _ _ _ _ _ _ (@Aj _ _ _ _ _ _ _ _ _ _ D__law_pair (hr.mono (by decide)) rfl (@AG _ _ _ _ _ _ _ (@cx _ 2 _ _ (by rfl)) (@Af _ _ _ _) (@Af _ _ _ _) (by rfl)) (by decide) (by rfl) (by rfl)) (@AC _ K _ _ _ (2) _ (@Ah _ _ _ _ _ (@Ag _ _ _ 3 sc_law.nd (by rfl)) (@Ah _ _ _ _ _ (@Ag _ _ _ 4 sc_law.nd (by rfl)) (@AA _) (by rfl)) (by rfl)) (by rfl) (by rfl) (by rfl) (by rfl)) (by rfl) (by rfl) (by rfl)) (@Ak _ _ _ _ _ (@AH _ _ (5) _ _ _ _ sc_law.nd rfl (AD (by rfl)) (@El _ _ _ _ (@AG _ _ _ _ _ _ _ (@Aj _ _ _ _ _ _ _ _ _ _ D_wider (hr.mono (by decide)) rfl (@Aq _ _ _ _ _ (@cx _ 3 _ _ (by rfl)) (@cx _ 4 _ _ (by rfl)) (by rfl)) (by decide) (by rfl) (by rfl)) (@Aj _ _ _ _ _ _ _ _ _ _ D_lower (hr.mono (by decide)) rfl (@Aq _ _ _ _ _ (@cx _ 3 _ _ (by rfl)) (@cx _ 4 _ _ (by rfl)) (by rfl)) (by decide) (by rfl) (by rfl)) (@Aj _ _ _ _ _ _ _ _ _ _ D_fuller (hr.mono (by decide)) rfl (@Aq _ _ _ _ _ (@cx _ 3 _ _ (by rfl)) (@cx _ 4 _ _ (by rfl)) (by rfl)) (by decide) (by rfl) (by rfl)) (by rfl))) (by rfl) (AE (by rfl))) (@Ak _ _ _ _ _ (@A5 _ _ _ _ _ _ _ _ (@A4 _ _ _ _ _ _ _ _ (@Hy _) (@AI _ _ _ _ _ _ _ _ _ (@FS _ _ hr) rfl T.b_repr boot_repr (@Al _ _ _ (@cx _ 5 _ _ (by rfl)) (by rfl)) (by decide) (by decide) (by rfl) (by rfl)) (@AI _ _ _ _ _ _ _ _ _ (@FS _ _ hr) rfl T.b_repr boot_repr (@Al _ _ _ (@Aj _ _ _ _ _ _ _ _ _ _ D__law_mains_due (hr.mono (by decide)) rfl (@Aq _ _ _ _ _ (@cx _ 3 _ _ (by rfl)) (@cx _ 4 _ _ (by rfl)) (by rfl)) (by decide) (by rfl) (by rfl)) (by rfl)) (by decide) (by decide) (by rfl) (by rfl)) (A3 _)) (@Ao _ _ _ (@Ax _ _ _ _ (@CV _ _ _ _))) (@A7 _)) (@Ao _ _ _ (@Bp _ _ _ _ _ _ _ _ PassesOwn.never rfl (@Cq _ _ _ _ _ _ rfl T.b_range (@Al _ _ _ (@AI _ _ _ _ _ _ _ _ _ (@BG _ K (by rfl)) rfl T.b_len PySem.boot_len (@Al _ _ _ (@AF _ _ _ _ _ _ _ (@AW _ K (by rfl)) (@cx _ 4 _ _ (by rfl)) (@Af _ _ _ _) (λ_ _=>rfl)) (by rfl)) (by decide) (by decide) (by rfl) (by rfl)) (by rfl)) (by rfl)) (@Ag _ _ _ 6 sc_law.nd (by rfl)) (@Ao _ _ _ (@Bp _ _ _ _ _ _ _ _ PassesOwn.never rfl (@Cq _ _ _ _ _ _ rfl T.b_range (@Al _ _ _ (@AI _ _ _ _ _ _ _ _ _ (@BG _ K (by rfl)) rfl T.b_len PySem.boot_len (@Al _ _ _ (@AF _ _ _ _ _ _ _ (@AW _ K (by rfl)) (@cx _ 3 _ _ (by rfl)) (@Af _ _ _ _) (λ_ _=>rfl)) (by rfl)) (by decide) (by decide) (by rfl) (by rfl)) (by rfl)) (by rfl)) (@Ag _ _ _ 7 sc_law.nd (by rfl)) (@Ao _ _ _ (@A5 _ _ _ _ _ _ _ _ (@A4 _ _ _ _ _ _ _ _ (@Hy _) (@AI _ _ _ _ _ _ _ _ _ (@FS _ _ hr) rfl T.b_repr boot_repr (@Al _ _ _ (@Aj _ _ _ _ _ _ _ _ _ _ D_better (hr.mono (by decide)) rfl (@BI _ _ _ _ _ _ _ _ _ (@cx _ 3 _ _ (by rfl)) (@cx _ 4 _ _ (by rfl)) (@cx _ 7 _ _ (by rfl)) (@cx _ 6 _ _ (by rfl)) (by rfl)) (by decide) (by rfl) (by rfl)) (by rfl)) (by decide) (by decide) (by rfl) (by rfl)) (@AI _ _ _ _ _ _ _ _ _ (@FS _ _ hr) rfl T.b_repr boot_repr (@Al _ _ _ (@Aj _ _ _ _ _ _ _ _ _ _ D__law_better (hr.mono (by decide)) rfl (@BI _ _ _ _ _ _ _ _ _ (@cx _ 3 _ _ (by rfl)) (@cx _ 4 _ _ (by rfl)) (@cx _ 7 _ _ (by rfl)) (@cx _ 6 _ _ (by rfl)) (by rfl)) (by decide) (by rfl) (by rfl)) (by rfl)) (by decide) (by decide) (by rfl) (by rfl)) (A3 _)) (@Ao _ _ _ (@Ax _ _ _ _ (@CV _ _ _ _))) (@A7 _))) (by intro _;rfl))) (by intro _;rfl))))))) (by intro _;rfl)) (@Ao _ _ _ (@Ax _ _ _ _ (@CV _ _ _ _)))),?_⟩
 unfold sp_lawP at h
 split at h
 ·rename_i a
  obtain⟨ns,hS,hn63,q⟩:=h
  refine⟨ns,hS,by decide,λc0 l1 H01 s01 hl1 k01=>?_⟩
  have hS1:An K H01 a (ns.map V.int):=s01.seq hS
  refine⟨1,rfl,2,rfl,a,_,rfl,hS1,λl2 hl2=>?_⟩
  have lc:(Bw (ns.map V.int) (some 1) (some 2)).length<=63:=Nat.le_trans (Fy _ _ _) (by rw [List.length_map];exact hn63)
  refine⟨l1,l2,[.int c0],_,rfl,rfl,(Ab.new hl2) _ _ k01,Ai,TX (by rw [List.length_singleton];omega),λL H02 s02 hL kL=>?_⟩
  have allI:∀v∈ [V.int c0]++Bw (ns.map V.int) (some 1) (some 2),∃i,v= .int i:=λv hv=>by
   rcases List.mem_append.mp hv with hv | hv
   ·exact⟨c0,List.mem_singleton.mp hv⟩
   ·obtain⟨i,_,e⟩:=List.mem_map.mp (TY hv);exact⟨i,e.symm⟩
  generalize [V.int c0]++Bw (ns.map V.int) (some 1) (some 2)=xs at allI kL
  refine⟨L,rfl,⟨xs,An.of kL⟩,Hu (xs:=xs) (λi σ H'=>(∃x1 x2 x3 x4 x5 x6 x7,σ=[some (.ref a),x1,x2,x3,x4,x5,x6,x7])/\H' L=some (.lst xs)) ⟨⟨_,_,_,_,_,_,_,rfl⟩,kL⟩ (λi σ H' _ h=>An.of h.2) (λi x σ H1 hx h=>?_) fun σ H1 h=>q H1⟩
  obtain⟨⟨x1,x2,x3,x4,x5,x6,x7,rfl⟩,hL1⟩:=h
  obtain⟨c,rfl⟩:=allI x (List.mem_of_getElem? hx)
  refine λp l f hp=>?_
  have nLp:L≠p:=A2 hL1 hp
  have np:=Ab.new (o:= .lst [.int l,.int f]) hp
  have pn2:A9 p (upd H1 p (.lst [.int l,.int f])):=⟨l,f,Ai⟩
  have hL2:=np _ _ hL1
  generalize upd H1 p (.lst [.int l,.int f])=H2 at np pn2 hL2 ⊢
  refine⟨pn2,by decide,by decide,by decide,by decide,λt H3 P S v u ok so ke ht rv ru e3 pn4=>⟨t,_,rfl,Ae.of ht,rfl,_,_,rfl,_,_,rfl,rfl,?_⟩⟩
  have no:AK (terms P S)=none:=(QI ok so).mp ke
  have tw3:Two p H3 P S v u:=⟨ok,so,rv,ru,no⟩
  refine⟨p,P,S,tw3,λd1 Ha n1 f1 sa=>⟨p,P,S,tw3.sm sa,λx2 Hb h2 sb=>⟨p,P,S,tw3.sm (sa.trans sb),λx3 Hc h3 sc=>λL5 Hd sd hL5 k5=>?_⟩⟩⟩
  have sc':=sa.trans (sb.trans sc)
  have n5:L5≠p:=(pn4.same sc').ne hL5
  have t0:Fj (terms P S) (mU P S 0) (B9 P 0) (.int d1):= .inr ⟨id,n1,d1,f1,rfl⟩
  have t1:Fj (terms P S) (mU P S 1) (B9 P 1) x2:=h2
  have t2:Fj (terms P S) (mU P S 2) (B9 P 2) x3:=h3
  have m0:=Jc ok so (by decide) no t0
  have m1:=Jc ok so (by decide) no t1
  have m2:=Jc ok so (by decide) no t2
  have s5:=sc'.trans sd
  refine⟨p,_,Aa.lst n5 k5 (.cons m0.rep (.cons m1.rep (.cons m2.rep .nil))),MH m0 m1 m2,p,P,S,tw3.sm s5,λL6 ys H6 ly due s6 hL6 k6=>?_⟩
  have n6:L6≠p:=(pn4.same s5).ne hL6
  obtain⟨y0,y1,y2,rfl⟩:=TZ ly
  have q0:=Jb t0 (due 0 y0 rfl)
  have q1:=Jb t1 (due 1 y1 rfl)
  have q2:=Jb t2 (due 2 y2 rfl)
  subst q0 q1 q2
  refine⟨p,_,Aa.lst n6 k6 (.cons m0.rep (.cons m1.rep (.cons m2.rep .nil))),MH m0 m1 m2,rfl,?_⟩
  rw [decide_eq_true rfl]
  refine⟨λz=>(by cases z),λ_=>?_⟩
  have s36:=s5.trans s6
  have tw:=tw3.sm s36
  have hL6':=(e3.trans (Ev.same s36)).lst hL2 nLp
  obtain⟨SA,SB,SE,xf,rfl,hSA,hSB,hSE,rf⟩:=Aa.story tw.ru
  obtain⟨PA,PB,PE',PM,xb,xe,rfl,pA,pB,rb,pE,re,pM⟩:=Aa.plant tw.r
  have lb:=rb.len
  rw [List.length_map] at lb
  have x8':=so.x8
  have b4:=ok.b4
  have ldd:(draws P S).length=S.ex.length:=BH
  have lh:P.lo<=P.hi:=Int.le_trans ok.ls ok.sh
  refine⟨SA,_,0,_,rfl,rfl,Ae.of hSA,rfl,SB,_,rfl,.inr (Ae.of hSB),?_⟩
  rw [List.length_map]
  refine⟨(S.ex.length:Int),rfl,by omega,by omega,Dm (n:=((S.ex.length:Int)).toNat) (λi σ G=>(∃x6 x7,σ=[some (.ref a),some (.int c),some (.ref p),some (.ref PA),some (.ref SA),some (.ref L5),x6,x7])/\Ab H6 G) ⟨⟨_,_,rfl⟩,Ab.refl _⟩ (λi σ G hi' h=>?_) fun σ G h=>?_⟩
  ·obtain⟨⟨x6,x7,rfl⟩,sg⟩:=h
   refine⟨PA,_,0,_,rfl,rfl,Ae.of (sg _ _ pA),rfl,PB,_,rfl,.inr (Ae.of (sg _ _ pB)),?_⟩
   rw [<-lb]
   refine⟨(P.bs.length:Int),rfl,by omega,by omega,Dm (n:=((P.bs.length:Int)).toNat) (λj σ G=>(∃x7,σ=[some (.ref a),some (.int c),some (.ref p),some (.ref PA),some (.ref SA),some (.ref L5),some (.int (0+(i:Int))),x7])/\Ab H6 G) ⟨⟨_,rfl⟩,sg⟩ (λj σ G2 hj h=>?_) fun σ G2 h=>?_⟩
   ·obtain⟨⟨x7,rfl⟩,sg2⟩:=h
    have hj2:j<P.bs.length:=by omega
    have hi2:i<S.ex.length:=by omega
    refine⟨p,P,S,j,i,tw.sm sg2,Int.zero_add _,hj2,Int.zero_add _,hi2,λd G3 nb fa s3'=>?_⟩
    have bd:=MG (C8 ok so) (MB ok so hj2 hi2) lh ok.sh (by show 0<(draws P S).length;omega) lh ok.sh (by show 0<(draws P S).length;omega) no nb fa
    have nd:FR (.int d):=(Kp (i:=d) (by omega)).nice (by decide) (by decide)
    refine⟨p,_,Aa.int,nd,p,P,S,j,i,tw.sm (sg2.trans s3'),Int.zero_add _,hj2,Int.zero_add _,hi2,λc' f' G4 lc lf s4'=>?_⟩
    have e:=MI fa lc lf
    rw [<-e]
    refine⟨p,_,Aa.int,nd,rfl,?_⟩
    rw [decide_eq_true rfl]
    exact⟨λz=>(by cases z),λ_=>⟨⟨_,rfl⟩,sg2.trans (s3'.trans s4')⟩⟩
   ·obtain⟨⟨x7,rfl⟩,sg2⟩:=h
    exact⟨⟨_,_,rfl⟩,sg2⟩
  ·obtain⟨⟨x6,x7,rfl⟩,sg⟩:=h
   exact⟨⟨_,_,_,_,_,_,_,rfl⟩,sg _ _ hL6'⟩
 ·exact h.elim
end
end MF
end
section
namespace MF
open PySem PySem.Spec PyProof.Rows L2
variable {h : Heap} {p0 p1 p2 : Str}
abbrev D4 (K:PySem.W.Frag) (x:Str) (st:Stmt):Prop:=∃(f:Addr) (oc:Value) (od an:Option Addr) (sl:Array (Option Value)) (kV dc pm cd ct:Value),PySem.W.nsIn K mainGlobals x=some (some (.ref f))/\K.lookup f=some ⟨oc,od,.func (PySem.W.fnOf x x (BU st) (BD st) (Aw st) .none kV dc pm an cd ct),sl⟩/\PySem.W.codeIn K cd x=true/\PySem.W.keepIn K (.ref f)=true
theorem d4_mk {K:PySem.W.Frag}{x:Str}{st:Stmt}{f:Addr}{oc:Value}{od an:Option Addr}{sl:Array (Option Value)}{kV dc pm cd ct:Value} (a:PySem.W.nsIn K mainGlobals x=some (some (.ref f))) (l:K.lookup f=some ⟨oc,od,.func (PySem.W.fnOf x x (BU st) (BD st) (Aw st) .none kV dc pm an cd ct),sl⟩) (c:PySem.W.codeIn K cd x=true) (k:PySem.W.keepIn K (.ref f)=true):D4 K x st:=⟨_,_,_,_,_,_,_,_,_,_,a,l,c,k⟩
theorem Hk {K:PySem.W.Frag}{mg:Str->Option Value}{x:Str}{st:Stmt}{ps:List Str} (X:K.In h) (G:h.Ns mainGlobals mg) (d:D4 K x st)
  (hb:∀(kV doc pm:Value) (an:Option Addr) (cdv ct:Value) (us:List Value),us.length=ps.length->bindArgs (PySem.W.fnOf x x (BU st) (BD st) (Aw st) .none kV doc pm an cdv ct) ⟨us,[]⟩=pure (ps.zip us)):Df K mg x st ps:=by
 obtain⟨f,_,_,_,_,_,_,_,_,_,a,l,c,k⟩:=d
 exact⟨f,_,HG l c k,PySem.W.mg_of X G a,(HG l c k).binds hb⟩
theorem BS {K:PySem.W.Frag}{mg:Str->Option Value}{x:Str}{st:Stmt} (X:K.In h) (G:h.Ns mainGlobals mg) (d:D4 K x st) (hb:∀(kV doc pm:Value) (an:Option Addr) (cdv ct a0:Value),bindArgs (PySem.W.fnOf x x (BU st) (BD st) (Aw st) .none kV doc pm an cdv ct) ⟨[a0],[]⟩=pure ([p0].zip [a0]):=by intros;rfl):Df K mg x st [p0]:=
 Hk X G d λ_ _ _ _ _ _ us hl=>match us,hl with | [_],_=>hb _ _ _ _ _ _ _
theorem Bo {K:PySem.W.Frag}{mg:Str->Option Value}{x:Str}{st:Stmt} (X:K.In h) (G:h.Ns mainGlobals mg) (d:D4 K x st) (hb:∀(kV doc pm:Value) (an:Option Addr) (cdv ct a0 a1:Value),bindArgs (PySem.W.fnOf x x (BU st) (BD st) (Aw st) .none kV doc pm an cdv ct) ⟨[a0,a1],[]⟩=pure ([p0,p1].zip [a0,a1]):=by intros;rfl):Df K mg x st [p0,p1]:=
 Hk X G d λ_ _ _ _ _ _ us hl=>match us,hl with | [_,_],_=>hb _ _ _ _ _ _ _ _
theorem Ck {K:PySem.W.Frag}{mg:Str->Option Value}{x:Str}{st:Stmt} (X:K.In h) (G:h.Ns mainGlobals mg) (d:D4 K x st) (hb:∀(kV doc pm:Value) (an:Option Addr) (cdv ct a0 a1 a2:Value),bindArgs (PySem.W.fnOf x x (BU st) (BD st) (Aw st) .none kV doc pm an cdv ct) ⟨[a0,a1,a2],[]⟩=pure ([p0,p1,p2].zip [a0,a1,a2]):=by intros;rfl):Df K mg x st [p0,p1,p2]:=
 Hk X G d λ_ _ _ _ _ _ us hl=>match us,hl with | [_,_,_],_=>hb _ _ _ _ _ _ _ _ _
theorem Hl {K:PySem.W.Frag}{mg:Str->Option Value}{x:Str}{st:Stmt}{p3:Str} (X:K.In h) (G:h.Ns mainGlobals mg) (d:D4 K x st) (hb:∀(kV doc pm:Value) (an:Option Addr) (cdv ct a0 a1 a2 a3:Value),bindArgs (PySem.W.fnOf x x (BU st) (BD st) (Aw st) .none kV doc pm an cdv ct) ⟨[a0,a1,a2,a3],[]⟩=pure ([p0,p1,p2,p3].zip [a0,a1,a2,a3]):=by intros;rfl):Df K mg x st [p0,p1,p2,p3]:=
 Hk X G d λ_ _ _ _ _ _ us hl=>match us,hl with | [_,_,_,_],_=>hb _ _ _ _ _ _ _ _ _ _
abbrev T5 (x:Str) (st:Stmt) (kV dc pm:Value) (an:Option Addr) (cd ct:Value):FuncData:=PySem.W.fnOf x x (BU st) (BD st) (Aw st) .none kV dc pm an cd ct
open PySem.W in
theorem all_mk {l:OpenLaw}{w:World}{K:Frag}{mg:Str->Option Value}{fa:Addr} (X:K.In h) (G:h.Ns mainGlobals mg) (hfa:mg "law"=some (.ref fa))
  {f:Addr}{od an:Option Addr}{sl:Array (Option Value)}{oc kV dc pm cd ct:Value}
  (a0:D4 K "_law_caps" s__law_caps)
  (a1:D4 K "_law_coals" s__law_coals)
  (a2:D4 K "_law_draws" s__law_draws)
  (a3:D4 K "_law_costs" s__law_costs)
  (a4:D4 K "_law_least" s__law_least)
  (a5:D4 K "_law_coal" s__law_coal)
  (a6:D4 K "_law_better" s__law_better)
  (a7:D4 K "_law_cell" s__law_cell)
  (a8:D4 K "_law_mains_due" s__law_mains_due)
  (a9:D4 K "_law_mains" s__law_mains)
  (a10:D4 K "_law_keeps" s__law_keeps)
  (a11:D4 K "_law_draw" s__law_draw)
  (a12:D4 K "_law_plant" s__law_plant)
  (a13:D4 K "_law_story" s__law_story)
  (a14:D4 K "_law_pair" s__law_pair)
  (a15:D4 K "_law_pen" s__law_pen)
  (a16:D4 K "replaced" s_replaced)
  (a17:D4 K "added" s_added)
  (a18:D4 K "floor_at" s_floor_at)
  (a19:D4 K "tails_from" s_tails_from)
  (a20:D4 K "highest_floor" s_highest_floor)
  (a21:D4 K "is_too_much" s_is_too_much)
  (a22:D4 K "least_stretch" s_least_stretch)
  (a23:D4 K "coal_under" s_coal_under)
  (a24:D4 K "coal_or_refuse" s_coal_or_refuse)
  (a25:D4 K "is_whole" s_is_whole)
  (a26:D4 K "is_whole_from" s_is_whole_from)
  (a27:D4 K "need_boiler" s_need_boiler)
  (a28:D4 K "need_hour" s_need_hour)
  (a29:D4 K "cap_under" s_cap_under)
  (a30:D4 K "words_for" s_words_for)
  (a31:D4 K "caps_in" s_caps_in)
  (a32:D4 K "is_tuple_of" s_is_tuple_of)
  (a33:D4 K "is_fault" s_is_fault)
  (a34:D4 K "is_make_and_coal" s_is_make_and_coal)
  (a35:D4 K "are_boilers" s_are_boilers)
  (a36:D4 K "is_engine" s_is_engine)
  (a37:D4 K "are_engines" s_are_engines)
  (a38:D4 K "is_main" s_is_main)
  (a39:D4 K "is_plant" s_is_plant)
  (a40:D4 K "need_plant" s_need_plant)
  (a41:D4 K "is_story" s_is_story)
  (a42:D4 K "need_story" s_need_story)
  (a43:D4 K "caps_of" s_caps_of)
  (a44:D4 K "drawn_by" s_drawn_by)
  (a45:D4 K "draws_of" s_draws_of)
  (a46:D4 K "terms_of" s_terms_of)
  (a47:D4 K "better" s_better)
  (a48:D4 K "fuller" s_fuller)
  (a49:D4 K "lower" s_lower)
  (a50:D4 K "wider" s_wider)
  (a:nsIn K mainGlobals "law"=some (some (.ref f))) (l0:K.lookup f=some ⟨oc,od,.func (T5 "law" s_law kV dc pm an cd ct),sl⟩) (c:codeIn K cd "law"=true) (k:keepIn K (.ref f)=true)
  (z0:nsIn K mainGlobals "all"=some none)
  (z1:nsIn K mainGlobals "bool"=some none)
  (z2:nsIn K mainGlobals "divmod"=some none)
  (z3:nsIn K mainGlobals "enumerate"=some none)
  (z4:nsIn K mainGlobals "int"=some none)
  (z5:nsIn K mainGlobals "isinstance"=some none)
  (z6:nsIn K mainGlobals "len"=some none)
  (z7:nsIn K mainGlobals "list"=some none)
  (z8:nsIn K mainGlobals "max"=some none)
  (z9:nsIn K mainGlobals "min"=some none)
  (z10:nsIn K mainGlobals "range"=some none)
  (z11:nsIn K mainGlobals "repr"=some none)
  (z12:nsIn K mainGlobals "reversed"=some none)
  (z13:nsIn K mainGlobals "sorted"=some none)
  (z14:nsIn K mainGlobals "sum"=some none)
  (z15:nsIn K mainGlobals "tuple"=some none)
  (z16:nsIn K mainGlobals "zip"=some none)
  {t0:Tok} (q0:nsIn K mainGlobals "MOST_BOILERS"=some (some (.int 4 t0)))
  {t1:Tok} (q1:nsIn K mainGlobals "MOST_ENGINES"=some (some (.int 4 t1)))
  {t2:Tok} (q2:nsIn K mainGlobals "MOST_FAULTS"=some (some (.int 4 t2)))
  {t3:Tok} (q3:nsIn K mainGlobals "MOST_HOURS"=some (some (.int 8 t3)))
  {t4:Tok} (q4:nsIn K mainGlobals "MOST_UNITS"=some (some (.int 9 t4)))
  {t5:Tok} (q5:nsIn K mainGlobals "MOST_EXTRA"=some (some (.int 20 t5)))
  {t6:Tok} (q6:nsIn K mainGlobals "MOST_IN_MAIN"=some (some (.int 40 t6)))
  :∃fd:FuncData,(∀(s:Shared) (v:Value),BindsTo s fd ⟨[v],[]⟩ [("_law_script",v)])/\∀base:Heap,K.In base->base.Ns mainGlobals mg->Cv l.prog w K mg base CX0 12 fa fd ["_law_script"] (sp_lawP K):=by
 have e:=hfa.symm.trans (PySem.W.mg_of X G a)
 cases e
 have T:Tx mg:=⟨mg_none_of X G z0,mg_none_of X G z1,mg_none_of X G z2,mg_none_of X G z3,mg_none_of X G z4,mg_none_of X G z5,mg_none_of X G z6,mg_none_of X G z7,mg_none_of X G z8,mg_none_of X G z9,mg_none_of X G z10,mg_none_of X G z11,mg_none_of X G z12,mg_none_of X G z13,mg_none_of X G z14,mg_none_of X G z15,mg_none_of X G z16,⟨_,mg_of X G q0⟩,⟨_,mg_of X G q1⟩,⟨_,mg_of X G q2⟩,⟨_,mg_of X G q3⟩,⟨_,mg_of X G q4⟩,⟨_,mg_of X G q5⟩,⟨_,mg_of X G q6⟩⟩
 have F:=HG (st:=s_law) l0 c k
 refine⟨PySem.W.fnOf "law" "law" (BU s_law) (BD s_law) (Aw s_law) .none kV dc pm an cd ct,λs v=> .of_eq rfl,λbase _ _=>?_⟩
 have B__law_caps:=SQ (P:=l.prog) (w:=w) (base:=base) (Bo X G a0) T
 have B__law_coals:=TQ (P:=l.prog) (w:=w) (base:=base) (BS X G a1) T
 have B__law_draws:=Tb (P:=l.prog) (w:=w) (base:=base) (Bo X G a2) T
 have B__law_costs:=TK (P:=l.prog) (w:=w) (base:=base) (BS X G a3) T
 have B__law_least:=TL (Hl X G a4) T B__law_costs
 have B__law_coal:=TU (Bo X G a5) T B__law_caps B__law_coals B__law_draws B__law_least
 have B__law_better:=TW (Hl X G a6) T B__law_caps B__law_coal B__law_coals B__law_draws B__law_least
 have B__law_cell:=Sn (P:=l.prog) (w:=w) (base:=base) (Bo X G a7) T
 have B__law_mains_due:=TV (Bo X G a8) T B__law_caps B__law_coal B__law_coals B__law_draws B__law_least
 have B__law_mains:=Tc (P:=l.prog) (w:=w) (base:=base) (Ck X G a9) T
 have B__law_keeps:=Te (Ck X G a10) T B__law_draws B__law_mains
 have B__law_draw:=Sr (P:=l.prog) (w:=w) (base:=base) (Bo X G a11) T
 have B__law_plant:=Ss (Bo X G a12) T B__law_draw
 have B__law_story:=SO (Ck X G a13) T B__law_draw
 have B__law_pair:=Tf (Ck X G a14) T B__law_caps B__law_keeps B__law_plant B__law_story
 have B__law_pen:=So (P:=l.prog) (w:=w) (base:=base) (BS X G a15) T
 have B_replaced:=S4 (P:=l.prog) (w:=w) (base:=base) (Ck X G a16) T
 have B_added:=S7 (Ck X G a17) T B_replaced
 have B_floor_at:=ST (P:=l.prog) (w:=w) (base:=base) (Hl X G a18) T
 have B_tails_from:=SU (Ck X G a19) T B_floor_at
 have B_highest_floor:=SV (BS X G a20) T B_tails_from
 have B_is_too_much:=SX (P:=l.prog) (w:=w) (base:=base) (Bo X G a21) T
 have B_least_stretch:=SZ (BS X G a22) T B_is_too_much
 have B_coal_under:=S5 (BS X G a23) T B_highest_floor B_least_stretch
 have B_coal_or_refuse:=Tk (BS X G a24) T B_coal_under
 have B_is_whole:=R3 (P:=l.prog) (w:=w) (base:=base) (BS X G a25) T
 have B_is_whole_from:=R5 (Ck X G a26) T B_is_whole
 have B_need_boiler:=Tj (Bo X G a27) T B_is_whole_from
 have B_need_hour:=Th (Bo X G a28) T B_is_whole_from
 have B_cap_under:=SF (P:=l.prog) (w:=w) (base:=base) (Bo X G a29) T
 have B_words_for:=SH (P:=l.prog) (w:=w) (base:=base) (Ck X G a30) T
 have B_caps_in:=SJ (Ck X G a31) T B_cap_under B_words_for
 have B_is_tuple_of:=R7 (P:=l.prog) (w:=w) (base:=base) (Ck X G a32) T
 have B_is_fault:=Sx (Ck X G a33) T B_is_tuple_of B_is_whole_from
 have B_is_make_and_coal:=Se (BS X G a34) T B_is_tuple_of B_is_whole_from
 have B_are_boilers:=Si (BS X G a35) T B_is_make_and_coal B_is_tuple_of
 have B_is_engine:=Sf (BS X G a36) T B_is_tuple_of B_is_whole_from
 have B_are_engines:=Sk (BS X G a37) T B_is_engine B_is_tuple_of
 have B_is_main:=Sg (BS X G a38) T B_is_tuple_of B_is_whole_from
 have B_is_plant:=Sl (BS X G a39) T B_are_boilers B_are_engines B_is_main B_is_tuple_of
 have B_need_plant:=Sw (BS X G a40) T B_is_plant
 have B_is_story:=Sy (Bo X G a41) T B_is_fault B_is_tuple_of B_is_whole_from B_need_plant
 have B_need_story:=SC (Bo X G a42) T B_is_story
 have B_caps_of:=SK (Bo X G a43) T B_caps_in B_need_story
 have B_drawn_by:=SL (P:=l.prog) (w:=w) (base:=base) (Bo X G a44) T
 have B_draws_of:=SM (Bo X G a45) T B_drawn_by B_need_story
 have B_terms_of:=SS (Bo X G a46) T B_caps_of B_draws_of
 have B_better:=To (Hl X G a47) T B_added B_coal_or_refuse B_coal_under B_need_boiler B_need_hour B_replaced B_terms_of
 have B_fuller:=Tn (Bo X G a48) T B_coal_or_refuse B_coal_under B_terms_of
 have B_lower:=Tm (Bo X G a49) T B_coal_or_refuse B_coal_under B_terms_of
 have B_wider:=Tl (Bo X G a50) T B_coal_or_refuse B_coal_under B_terms_of
 exact T4 F T B__law_better B__law_cell B__law_mains_due B__law_pair B__law_pen B_better B_fuller B_lower B_wider
end MF
namespace PySem.W.Fast
def tw15614252148820898533:=0
def tw14332935729501364950:=0
def tw6979102004351217732:=0
def tw9693229852726435568:=0
def tw5039635551937975393:=0
def tw6252973703156891391:=0
def tw13233439414342282718:=0
def tw938692073564406394:=0
def tw9668870772143893208:=0
def tw14451685559801127154:=0
def tw17076835227425690760:=0
def tw1093405115191955377:=0
def tw3921816272639050700:=0
def tw16505404210800732987:=0
def tw17854666972893368555:=0
def tw16755641854499537054:=0
def tw9777509162962698350:=0
def tw8999657379919338159:=0
def tw12354370238181416113:=0
def tw17399082562063170493:=0
def tw14737578493833316870:=0
def tw7898406585267596671:=0
def tw9858317736462786623:=0
def tw16412202180643052838:=0
def tw18390425454299493541:=0
def tw2641014251415988363:=0
def tw17622747895302118131:=0
def tw4765448756841007618:=0
def tw1900777491824477901:=0
def tw669156930021910889:=0
def tw11368413921407292979:=0
def tw11737144355362869969:=0
def tw10785265782271354588:=0
def tw7142520114808814332:=0
def tw9910726030377660832:=0
def tw9095024273731908882:=0
def tw9218676443169089575:=0
def tw2514659769535997773:=0
def tw1912540260124490697:=0
def tw10486372329764309926:=0
def tw16107407729042681860:=0
def tw4159118697196819630:=0
def tw14232517697563389776:=0
def tw17363746065311703154:=0
def tw6085003238456007206:=0
def tw16383430286917570132:=0
def tw9431093464431349169:=0
def tw15557588663357161008:=0
def tw5554592744786827753:=0
def tw6048462869631050068:=0
def tw13487425431048336071:=0
def tw11701118491053681937:=0
def tw3307434822267746751:=0
def tw13469699413169508007:=0
def tw15701978910646721507:=0
def tw6953342020534690887:=0
def tw3739728109796151903:=0
def tw5476277598757947505:=0
def tw1364468192902851350:=0
def tw9006399423810030650:=0
def tw6438435395551836828:=0
def tw12120951656256746759:=0
def tw7951332097606863217:=0
def tw2388054667419914783:=0
def tw6170622938645581064:=0
def tw17501678070281870638:=0
def tw14444834643126740493:=0
def tw4253294936722078499:=0
def tw10912703252497355106:=0
def tw14935320457949300557:=0
def tw5350961558373000947:=0
def tw9714357667128319805:=0
def tw11690773138715948700:=0
def tw4989655544201336707:=0
def tw14316459878343937409:=0
def tw14091028434475670818:=0
def tw2538451537920890763:=0
def tw3300828025271093178:=0
def tw10231043733959238497:=0
def tw9789833293738424659:=0
def tw10004969801046596423:=0
def tw11689764280821494196:=0
def tw10789734547732946080:=0
def tw18133891069691041776:=0
def tw16772118166785558110:=0
def tw7954009053968359052:=0
def tw11621133954033731851:=0
def tw17442437497545124579:=0
def tw17851115373083236685:=0
def tw11365401537698982056:=0
def tw12497028996608115806:=0
def tw17897893375973592096:=0
def tw18269514766169055949:=0
def tw13405706770682468030:=0
def tw1452704891190112544:=0
def tw3371724960769823624:=0
def tw10630962436002231167:=0
def tw274227057455571038:=0
def tw10603722323151881960:=0
def tw986363879831584871:=0
def tw11216080839040255951:=0
def tw7772683487604941715:=0
def tw16261071131439577486:=0
def tw11945405492187079060:=0
def tw2323431906920149087:=0
def tw13129069599689929546:=0
def tw18056620479992097633:=0
def tw5195443820979368525:=0
def tw18434842352781834345:=0
def tw5533852960455878318:=0
def tw13947038248434767791:=0
def tw10414349317237253073:=0
def tw14279008767588231579:=0
def tw16980807054828688856:=0
def tw3700925956524092756:=0
def tw152707221238606068:=0
def tw11763099455819482792:=0
def tw4460726102063312229:=0
def tw1035469606518119926:=0
def tw16179042329093306816:=0
def tw2401029436162509972:=0
def tw11709929565667819177:=0
def tw9934899671094865209:=0
def tw3498419030932998070:=0
def tw8493906442674558622:=0
end PySem.W.Fast
open PySem PySem.W PyProof.Rows
set_option maxRecDepth 100000 in
set_option maxHeartbeats 0 in
theorem PySem.Challenge.cw_mainfires_k52_a_unit_more_to_have_holds : PySem.Challenge.rw_mainfires_k52_a_unit_more_to_have.Holds := by
 w_on;o_law;k_head;(case hw=>w_witness2)
 k_fill
 refine L2.walk_ofK (l := PySem.Challenge.rw_mainfires_k52_a_unit_more_to_have) (n := 63) (k := 12) (x := "_law_script") (CX := L2.CX0) (sp := MF.sp_lawP) rfl (by decide) rfl ⟨rfl, by decide, by decide, rfl⟩ (λw h Y => PySem.W.kIn_of Y) ?F (λ_ _ a ns hl _ hS => ⟨ns, hS, hl, λ_ => rfl⟩) (λ_ _ _ _ z => z)
 case F=>
  intro w mg fa h KX G hmg
  refine' MF.all_mk KX G hmg ?_ ?_ ?_ ?_ ?_ ?_ ?_ ?_ ?_ ?_ ?_ ?_ ?_ ?_ ?_ ?_ ?_ ?_ ?_ ?_ ?_ ?_ ?_ ?_ ?_ ?_ ?_ ?_ ?_ ?_ ?_ ?_ ?_ ?_ ?_ ?_ ?_ ?_ ?_ ?_ ?_ ?_ ?_ ?_ ?_ ?_ ?_ ?_ ?_ ?_ ?_ ?_ ?_ ?_ ?_ ?_ ?_ ?_ ?_ ?_ ?_ ?_ ?_ ?_ ?_ ?_ ?_ ?_ ?_ ?_ ?_ ?_ ?_ ?_ ?_ ?_ ?_ ?_ ?_
  all_goals first | refine' MF.d4_mk ?_ ?_ ?_ ?_ | skip
  any_goals k_is
end
