import PyProof.Rows.All
import Wide.All
import OpenK.AllK
import Wide.FinOn
import Lean
import PyProof.EqAt
import PyProof.EqKinds
import PyProof.TupleCall
import PyProof.Draws
import PyProof.ZipIter
import PyProof.EnumMake
import PyProof.IsiPairs
import PyProof.IsiHeapPairs
import PyProof.IsiNone
import PyProof.ReprRoads
import PyProof.ConsumeWalk
import PyProof.NeKinds
import PyProof.Rows.SeqMore
import PyProof.Rows.SortWalk
import PyProof.Rows.StrJoinMade
import PyProof.P3Eq
import PyProof.ListRange
import PyProof.CollectIter
import KE.KTryDeep
import PyProof.ExcBaseAll.ValueError
import PyProof.ExcArgsOwn
import PyProof.ExcAttrAll.ValueError
import KE.KLam
import PyProof.DictItemsLoops
import PyProof.DictCompW
import KE.KRevIter
import PyProof.MinMaxWalk
import PyProof.Rows.RowHeap
import PySem.Challenge.RW_mainfires_k53_units_where_nothing_keeps
set_option Elab.async false
set_option linter.all false
set_option maxRecDepth 100000
set_option maxHeartbeats 4000000
section
namespace L2
open PySem PySem.Spec PyProof.Rows
abbrev AO := Sum Int Str
def Dp : AO -> Value -> Bool
 | .inl k,v => Value.isInt k v
 | .inr x,v => Value.isStrOf x v
def KZ (w : World) : AO -> Int
 | .inl k => hashInt k
 | .inr x => hashStr w x
theorem CI : ∀ {k : AO} {v : Value},Dp k v = true -> (∃ i t,k = Sum.inl i /\ v = Value.int i t) \/ (∃ x t,k = Sum.inr x /\ v = Value.str x t)
 | .inl i,v,h => by
  obtain ⟨t,e⟩ := Value.isInt_shape (k := i) (v := v) h
  exact .inl ⟨i,t,rfl,e⟩
 | .inr x,v,h => by
  obtain ⟨t,e⟩ := Value.isStrOf_shape (x := x) (v := v) h
  exact .inr ⟨x,t,rfl,e⟩
theorem K0 (i : Int) (t : Tok) : Dp (.inl i) (.int i t) = true := by simp [Dp,Value.isInt]
theorem K1 (x : Str) (t : Tok) : Dp (.inr x) (.str x t) = true := by simp [Dp,Value.isStrOf]
theorem K2 (a b : Int) : decide ((Sum.inl a : AO) = Sum.inl b) = (a == b) := by
 by_cases e : a = b
 ·subst e; simp
 ·have h : ¬ (Sum.inl a : AO) = Sum.inl b := fun q => e (Sum.inl.inj q)
  rw [decide_eq_false h]
  exact (beq_eq_false_iff_ne.mpr e).symm
theorem K3 (a b : Str) : decide ((Sum.inr a : AO) = Sum.inr b) = decide (a = b) := by
 by_cases e : a = b
 ·subst e; simp
 ·have h : ¬ (Sum.inr a : AO) = Sum.inr b := fun q => e (Sum.inr.inj q)
  rw [decide_eq_false h,decide_eq_false e]
theorem K4 (a : Int) (b : Str) : decide ((Sum.inl a : AO) = Sum.inr b) = false := decide_eq_false (fun q => nomatch q)
theorem K9 (a : Str) (b : Int) : decide ((Sum.inr a : AO) = Sum.inl b) = false := decide_eq_false (fun q => nomatch q)
def Bq (prog : Program) (w : World) : PySem.KeyKind prog w AO where
 is := Dp
 hash := KZ w
 inj := fun v a b ha hb => by
  rcases CI ha with ⟨i,t,rfl,rfl⟩ | ⟨x,t,rfl,rfl⟩
  ·rcases CI hb with ⟨j,u,rfl,e⟩ | ⟨y,u,rfl,e⟩
   ·injection e with e1 _; rw [e1]
   ·exact nomatch e
  ·rcases CI hb with ⟨j,u,rfl,e⟩ | ⟨y,u,rfl,e⟩
   ·exact nomatch e
   ·injection e with e1 _; rw [e1]
 byValue := fun k v h => by
  rcases CI h with ⟨i,t,rfl,rfl⟩ | ⟨x,t,rfl,rfl⟩ <;> rfl
 pyHash := fun hv h => by
  rcases CI hv with ⟨i,t,rfl,rfl⟩ | ⟨x,t,rfl,rfl⟩
  ·exact wpAny_pyHash_int h
  ·exact wpAny_pyHash_str h
 eqBool := fun hu hv h => by
  rcases CI hu with ⟨i,t,rfl,rfl⟩ | ⟨x,t,rfl,rfl⟩
  ·rcases CI hv with ⟨j,u,rfl,rfl⟩ | ⟨y,u,rfl,rfl⟩
   ·rw [K2] at h; exact wpAny_eqBool_int h
   ·rw [K4] at h; exact SeqAt.EqAt.int_str i t y u _ _ _ _ h
  ·rcases CI hv with ⟨j,u,rfl,rfl⟩ | ⟨y,u,rfl,rfl⟩
   ·rw [K9] at h; exact SeqAt.EqAt.str_int x t j u _ _ _ _ h
   ·rw [K3] at h; exact wpAny_eqBool_str h
 «strs» := fun k x t v h => by
  rcases CI h with ⟨i,u,rfl,e⟩ | ⟨y,u,rfl,e⟩
  ·exact nomatch e
  ·injection e with e1 _
   subst e1
   cases v <;> rfl
theorem La (prog : Program) (w : World) (k : AO) (v : Value) : (Bq prog w).is k v = Dp k v := rfl
theorem Iw (prog : Program) (w : World) (i : Int) (t : Tok) : (Bq prog w).is (.inl i) (.int i t) = true := K0 i t
theorem Lb (prog : Program) (w : World) (x : Str) (t : Tok) : (Bq prog w).is (.inr x) (.str x t) = true := K1 x t
end L2
namespace L2
open PySem PySem.Spec PyProof.Rows
inductive V where
 | non | bl (b : Bool) | int (i : Int) | str (x : Str) | byt (b : Array UInt8) | flt (b : UInt64) | ref (a : Addr) | ty (n : String)
 deriving DecidableEq
def Aw : V -> Value -> Prop
 | .non,u => u = Value.none
 | .bl b,u => u = Value.bool b
 | .int i,u => ∃ t,u = Value.int i t
 | .str x,u => ∃ t,u = Value.str x t
 | .byt b,u => ∃ t,u = Value.bytes b t
 | .flt b,u => ∃ t,u = Value.float b t
 | .ref a,u => u = Value.ref a
 | .ty n,u => u = Value.type n
abbrev At : List V -> List Value -> Prop := Paired Aw
theorem At.length {xs : List V} {us : List Value} (r : At xs us) : xs.length = us.length := Paired.length r
theorem At.get : ∀ {xs : List V} {us : List Value} {i : Nat} {x : V},At xs us -> xs[i]? = some x -> ∃ u,us[i]? = some u /\ Aw x u
 | _,_,_,_,.nil,e => by simp at e
 | _,_,0,_,.cons r _,e => by simp at e; subst e; exact ⟨_,rfl,r⟩
 | _,_,i + 1,x,.cons _ t,e => by
  obtain ⟨u,h1,h2⟩ := At.get (i := i) (x := x) t (by simpa using e)
  exact ⟨u,by simpa using h1,h2⟩
theorem At.set {x : V} {u : Value} (r : Aw x u) : ∀ {xs : List V} {us : List Value} (i : Nat),At xs us -> At (xs.set i x) (us.set i u)
 | _,_,_,.nil => .nil
 | _,_,0,.cons _ t => .cons r t
 | _,_,i + 1,.cons q t => .cons q (At.set r i t)
theorem At.append : ∀ {xs ys : List V} {us ws : List Value},At xs us -> At ys ws -> At (xs ++ ys) (us ++ ws)
 | _,_,_,_,.nil,s => s
 | _,_,_,_,.cons r t,s => .cons r (At.append t s)
theorem At.take : ∀ {xs : List V} {us : List Value} (n : Nat),At xs us -> At (xs.take n) (us.take n)
 | _,_,0,_ => .nil
 | _,_,_ + 1,.nil => .nil
 | _,_,n + 1,.cons r t => .cons r (At.take n t)
theorem At.drop : ∀ {xs : List V} {us : List Value} (n : Nat),At xs us -> At (xs.drop n) (us.drop n)
 | _,_,0,r => r
 | _,_,_ + 1,.nil => .nil
 | _,_,n + 1,.cons _ t => At.drop n t
def Ix : Option V -> Option Value -> Prop
 | some v,some u => Aw v u
 | none,none => True
 | _,_ => False
def KV {κ : Type} : List (κ × V) -> List (κ × Value) -> Prop := Paired fun (p : κ × V) (q : κ × Value) => p.1 = q.1 /\ Aw p.2 q.2
def kV : AO -> V
 | .inl i => .int i
 | .inr x => .str x
inductive HO where
  | lst (xs : List V)
  | tup (xs : List V)
  | dK (kvs : List (AO × V)) | dT (kvs : List (List AO × V))
  | set (S : Int -> Bool) (n : Nat)
  | ins (C dx : Addr) (fs : List (Str × V))
  | own (x : Addr)
  | xd (fs : List (Str × V))
  | met (f x : Addr)
  | rng (lo hi : Int)
  | frz (o : Obj) (u : HO)
  | tbl (ps : Array Value)
  | ext (φ : Heap -> Prop)
abbrev Hp := Addr -> Option HO
def upd (H : Hp) (a : Addr) (o : HO) : Hp := fun b => if b = a then some o else H b
theorem Ai {H : Hp} {a : Addr} {o : HO} : upd H a o a = some o := by unfold upd; rw [if_pos rfl]
theorem Ap {H : Hp} {a b : Addr} {o : HO} (h : b ≠ a) : upd H a o b = H b := by unfold upd; rw [if_neg h]
theorem Lc {H : Hp} {a b : Addr} {o u : HO} (h : H a = some o) (h' : H b = some u) (d : o ≠ u) : a ≠ b := by
 intro e; subst e; rw [h] at h'; exact d (Option.some.inj h')
theorem Bd {H : Hp} {a b : Addr} {o : HO} (h : H a = some o) (h' : H b = none) : a ≠ b := by
 intro e; subst e; rw [h] at h'; cases h'
section
variable (P : Program) (w : World)
def ObjOk (H : Hp) (h : Heap) (a : Addr) : HO -> Prop
 | .lst xs => xs.length <= sizeLine /\ ∃ (its : List Value) (n : Nat),At xs its /\ h.get? a = some { cls := .type "list",data := .seq its.toArray n }
 | .tup xs => xs.length <= sizeLine /\ ∃ its : List Value,At xs its /\ IsTup h a its.toArray
 | .dK kvs => kvs.length <= sizeLine /\ (a == sysModules) = false /\ ∃ vs,KV kvs vs /\ h.DictOf (Bq P w) a vs
 | .dT kvs => kvs.length <= sizeLine /\ (a == sysModules) = false /\ ∃ xs : List (List AO × Addr × Value),
   Paired (fun (p : List AO × V) (q : List AO × Addr × Value) => p.1 = q.1 /\ H q.2.1 = some (.tup (p.1.map kV)) /\ Aw p.2 q.2.2) kvs xs /\
   ∃ o es ep,h.get? a = some o /\ o.ExactDict /\ o.data = .dict es ep /\ es.toList = xs.map (entryOfKey (tupleKind (Bq P w))) /\ (xs.map (·.1)).Nodup
 | .set S n => h.SetOf (intKind P w) a S n
 | .ins C dx fs => H dx = some (.own a) /\ fs.length <= 1000 /\ dx ≠ a /\ h.get? a = some (PySem.W.instObj C dx) /\
   ∃ mA,h.Ns1 dx mA /\ (∀ f,Ix (fs.lookup f) (mA f)) /\ PySem.Within mA (fs.map (·.1))
 | .own _ => ∃ o,h.get? a = some o
 | .xd fs => ∃ mA,h.Ns1 a mA /\ ∀ f,Ix (fs.lookup f) (mA f)
 | .rng lo hi => ∃ t u v,h.get? a = some { cls := .type "range",data := .fields #[.int lo t,.int hi u,.int 1 v] }
 | .frz o u => h.get? a = some o /\ ObjOk H h a u
 | .tbl ps => h.get? a = some { cls := .none,data := .fields ps }
 | .met f x => h.get? a = some (PySem.W.methodObj (.ref f) (.ref x))
 | .ext φ => φ h /\ (∃ o,h.get? a = some o) /\ ∀ h1 h2 : Heap,φ h1 -> (∀ o,h1.get? a = some o -> h2.get? a = some o) -> φ h2
def HOk (H : Hp) (h : Heap) : Prop := ∀ a o,H a = some o -> ObjOk P w H h a o
end
section
variable {P : Program} {w : World} {H H' : Hp} {h h' : Heap} {a : Addr} {o : HO}
theorem ObjOk.lt (x : ObjOk P w H h a o) : a < h.objs.size := by
 cases o with
 | lst xs => obtain ⟨_,_,_,_,e⟩ := x; exact Heap.lt_size e
 | tup xs => obtain ⟨_,_,_,p⟩ := x; exact p.lt
 | dK kvs => obtain ⟨_,_,_,_,o,_,_,e,_⟩ := x; exact Heap.lt_size e
 | dT kvs => obtain ⟨_,_,_,_,o,_,_,e,_⟩ := x; exact Heap.lt_size e
 | set S n => obtain ⟨o,_,_,_,e,_⟩ := x; exact Heap.lt_size e
 | ins C dx fs => obtain ⟨_,_,_,e,_⟩ := x; exact Heap.lt_size e
 | own y => obtain ⟨_,e⟩ := x; exact Heap.lt_size e
 | xd fs => obtain ⟨_,⟨_,_,_,e,_⟩,_⟩ := x; exact Heap.lt_size e
 | rng lo hi => obtain ⟨_,_,_,e⟩ := x; exact Heap.lt_size e
 | frz ob u => obtain ⟨e,_⟩ := x; exact Heap.lt_size e
 | tbl ps => exact Heap.lt_size (show h.get? a = some _ from x)
 | met f y => exact Heap.lt_size (show h.get? a = some _ from x)
 | ext φ => obtain ⟨_,⟨_,e⟩,_⟩ := x; exact Heap.lt_size e
theorem Paired.mapP {α β : Type} {F G : α -> β -> Prop} : ∀ {l₁ : List α} {l₂ : List β},Paired F l₁ l₂ -> (∀ a b,F a b -> G a b) -> Paired G l₁ l₂
 | _,_,.nil,_ => .nil
 | _,_,.cons r t,f => .cons (f _ _ r) (Paired.mapP t f)
theorem ObjOk.stay (x : ObjOk P w H h a o) (k : ∀ b u,(b = a \/ H b = some (.own a)) -> h.get? b = some u -> h'.get? b = some u)
  (ho : ∀ b,H b = some (.own a) -> H' b = some (.own a)) (ht : ∀ b xs,H b = some (.tup xs) -> H' b = some (.tup xs)) : ObjOk P w H' h' a o := by
 induction o with
 | lst xs => obtain ⟨z,its,n,r,e⟩ := x; exact ⟨z,its,n,r,k _ _ (.inl rfl) e⟩
 | tup xs => obtain ⟨z,its,r,ob,e,c⟩ := x; exact ⟨z,its,r,ob,k _ _ (.inl rfl) e,c⟩
 | dK kvs => obtain ⟨z,y,vs,r,ob,es,ep,e,c⟩ := x; exact ⟨z,y,vs,r,ob,es,ep,k _ _ (.inl rfl) e,c⟩
 | dT kvs =>
  obtain ⟨z,y,xs,r,ob,es,ep,e,c⟩ := x
  exact ⟨z,y,xs,Paired.mapP r fun p q z => ⟨z.1,ht _ _ z.2.1,z.2.2⟩,ob,es,ep,k _ _ (.inl rfl) e,c⟩
 | set S n => obtain ⟨ob,es,ep,t,e,c⟩ := x; exact ⟨ob,es,ep,t,k _ _ (.inl rfl) e,c⟩
 | ins C dx fs =>
  obtain ⟨d,z,ne,e,mA,⟨od,es,ep,e2,c⟩,r⟩ := x
  exact ⟨ho _ d,z,ne,k _ _ (.inl rfl) e,mA,⟨od,es,ep,k _ _ (.inr d) e2,c⟩,r⟩
 | own y => obtain ⟨ob,e⟩ := x; exact ⟨ob,k _ _ (.inl rfl) e⟩
 | xd fs => obtain ⟨mA,⟨od,es,ep,e,c⟩,r⟩ := x; exact ⟨mA,⟨od,es,ep,k _ _ (.inl rfl) e,c⟩,r⟩
 | rng lo hi => obtain ⟨t,u,v,e⟩ := x; exact ⟨t,u,v,k _ _ (.inl rfl) e⟩
 | frz ob u ih => obtain ⟨e,q⟩ := x; exact ⟨k _ _ (.inl rfl) e,ih q⟩
 | tbl ps =>
  have e : h.get? a = some { cls := .none,data := .fields ps } := x
  show h'.get? a = some { cls := .none,data := .fields ps }
  exact k a _ (.inl rfl) e
 | met f y =>
  have e : h.get? a = some (PySem.W.methodObj (.ref f) (.ref y)) := x
  show h'.get? a = some (PySem.W.methodObj (.ref f) (.ref y))
  exact k a _ (.inl rfl) e
 | ext φ => obtain ⟨p,⟨o,e⟩,st⟩ := x; exact ⟨st _ _ p fun o q => k _ _ (.inl rfl) q,⟨o,k _ _ (.inl rfl) e⟩,st⟩
theorem HOk.lt (x : HOk P w H h) (e : H a = some o) : a < h.objs.size := (x a o e).lt
theorem HOk.fresh (x : HOk P w H h) (e : h.objs.size <= a) : H a = none := by
 cases q : H a with
 | none => rfl
 | some u => exact absurd (Nat.lt_of_lt_of_le (x.lt q) e) (Nat.lt_irrefl _)
theorem HOk.kept (x : HOk P w H h) (k : ∀ b u,h.get? b = some u -> h'.get? b = some u) : HOk P w H h' := fun a o e =>
 (x a o e).stay (fun b u _ q => k b u q) (fun _ q => q) fun _ _ q => q
theorem HOk.laid (x : HOk P w H h) (k : ∀ b u,h.get? b = some u -> h'.get? b = some u) (hp : h.objs.size <= a) (new : ObjOk P w (upd H a o) h' a o) : HOk P w (upd H a o) h' := fun b u e => by
 have hn := x.fresh hp
 by_cases hb : b = a
 ·subst hb; rw [Ai] at e; cases e; exact new
 ·rw [Ap hb] at e
  exact (x b u e).stay (fun c v _ q => k c v q) (fun c q => by rw [Ap (Bd q hn)]; exact q) fun c xs q => by rw [Ap (Bd q hn)]; exact q
end
def Rd (H : Hp) (a : Addr) (u : HO) : Prop := H a = some u \/ ∃ o,H a = some (.frz o u)
theorem Rd.ok {P : Program} {w : World} {H : Hp} {h : Heap} {a : Addr} {u : HO} (r : Rd H a u) (x : HOk P w H h) : ObjOk P w H h a u := by
 rcases r with r | ⟨o,r⟩
 ·exact x a u r
 ·obtain ⟨_,q⟩ := x a _ r
  exact q
def E1 : Option HO -> Prop
 | some (.lst _) => True
 | some (.dK _) => True
 | some (.dT _) => True
 | some (.set _ _) => True
 | some (.ins _ _ _) => True
 | some (.ext _) => True
 | _ => False
section
variable {P : Program} {w : World} {H : Hp} {h h' : Heap} {x e : Addr} {o' : HO}
theorem HOk.write (ok : HOk P w H h) (mu : E1 (H x)) (he : e = x \/ H e = some (.own x)) (k : ∀ b u,b ≠ e -> h.get? b = some u -> h'.get? b = some u) (heo : ∃ u,h'.get? e = some u)
  (new : ObjOk P w (upd H x o') h' x o') : HOk P w (upd H x o') h' := fun b u q => by
 have nown : ∀ c y,H c = some (.own y) -> c ≠ x := fun c y r z => by subst z; rw [r] at mu; exact mu
 have ntup : ∀ c xs,H c = some (.tup xs) -> c ≠ x := fun c xs r z => by subst z; rw [r] at mu; exact mu
 by_cases hb : b = x
 ·subst hb; rw [Ai] at q; cases q; exact new
 ·rw [Ap hb] at q
  by_cases hbe : b = e
  ·have q' : H b = some (.own x) := by
    rcases he with z | z
    ·exact absurd (hbe.trans z) hb
    ·rw [hbe]; exact z
   rw [q] at q'; cases q'
   obtain ⟨v,hv⟩ := heo
   exact ⟨v,by rw [hbe]; exact hv⟩
  ·refine (ok b u q).stay (fun c v hc r => k c v ?_ r) (fun c r => by rw [Ap (nown c b r)]; exact r) fun c xs r => by rw [Ap (ntup c xs r)]; exact r
   rcases hc with rfl | hc
   ·exact hbe
   ·rintro rfl
    rcases he with z | z
    ·exact nown c b hc z
    ·rw [hc] at z; cases z; exact hb rfl
end
structure Un (fs ex : List Addr) (H H' : Hp) (h h' : Heap) : Prop where
 keep : ∀ b o,h.get? b = some o -> H b = none -> b ∉ fs -> b ∉ ex -> h'.get? b = some o
 slot : ∀ b o,h.get? b = some o -> H b = none -> b ∈ fs -> b ∉ ex -> ∃ sl,h'.get? b = some { o with slots := sl }
 free : ∀ b o,h.get? b = some o -> H b = none -> b ∉ ex -> H' b = none
 there : ∀ b o,h.get? b = some o -> b ∉ ex -> ∃ o',h'.get? b = some o'
 tups : ∀ b xs,H b = some (.tup xs) -> H' b = some (.tup xs)
 frzs : ∀ b o u,H b = some (.frz o u) -> H' b = some (.frz o u)
 tbls : ∀ b ps,H b = some (.tbl ps) -> ∃ more,H' b = some (.tbl (ps ++ more))
section
variable {fs fs' ex ex' : List Addr} {H H1 H2 : Hp} {h h1 h2 h' : Heap} {a x e : Addr} {o : HO}
theorem Un.any (u : Un fs ex H H1 h h1) {b : Addr} {ob : Obj} (q : h.get? b = some ob) (n : H b = none) (hx : b ∉ ex) : ∃ sl,h1.get? b = some { ob with slots := sl } := by
 by_cases hb : b ∈ fs
 ·exact u.slot b ob q n hb hx
 ·exact ⟨ob.slots,u.keep b ob q n hb hx⟩
theorem Un.kept (k : ∀ b u,h.get? b = some u -> h'.get? b = some u) : Un fs ex H H h h' :=
 ⟨fun b ob q _ _ _ => k b ob q,fun b ob q _ _ _ => ⟨ob.slots,k b ob q⟩,fun _ _ _ n _ => n,fun b ob q _ => ⟨ob,k b ob q⟩,fun _ _ q => q,fun _ _ _ q => q,fun _ ps q => ⟨#[],by rw [q]; simp⟩⟩
theorem Un.refl : Un fs ex H H h h := Un.kept fun _ _ q => q
theorem Un.laid (k : ∀ b u,h.get? b = some u -> h'.get? b = some u) (hp : h.objs.size <= a) (hn : H a = none) : Un fs ex H (upd H a o) h h' where
 keep := fun b u q _ _ _ => k b u q
 slot := fun b u q _ _ _ => ⟨u.slots,k b u q⟩
 free := fun b u q n _ => by rw [Ap (Nat.ne_of_lt (Nat.lt_of_lt_of_le (Heap.lt_size q) hp))]; exact n
 there := fun b u q _ => ⟨u,k b u q⟩
 tups := fun b xs q => by rw [Ap (Bd q hn)]; exact q
 frzs := fun b u xs q => by rw [Ap (Bd q hn)]; exact q
 tbls := fun b ps q => ⟨#[],by rw [Ap (Bd q hn),q]; simp⟩
theorem Un.write (mu : E1 (H x)) (he : e = x \/ H e = some (.own x)) (k : ∀ b u,b ≠ e -> h.get? b = some u -> h'.get? b = some u) (heo : ∃ u,h'.get? e = some u) : Un fs ex H (upd H x o) h h' := by
 have hx : ∀ b,H b = none -> b ≠ x := fun b n z => by subst z; rw [n] at mu; exact mu
 have hb : ∀ b,H b = none -> b ≠ e := fun b n z => by
  subst z
  rcases he with r | r
  ·exact hx b n r
  ·rw [n] at r; cases r
 have hm : ∀ b u,H b = some u -> ¬ E1 (some u) -> b ≠ x := fun b u q nm z => by subst z; rw [q] at mu; exact nm mu
 refine ⟨fun b u q n _ _ => k b u (hb b n) q,fun b u q n _ _ => ⟨u.slots,k b u (hb b n) q⟩,fun b u q n _ => by rw [Ap (hx b n)]; exact n,fun b u q _ => ?_,
  fun b xs q => by rw [Ap (hm b _ q fun z => z)]; exact q,fun b u xs q => by rw [Ap (hm b _ q fun z => z)]; exact q,fun b ps q => ⟨#[],by rw [Ap (hm b _ q fun z => z),q]; simp⟩⟩
 by_cases hbe : b = e
 ·subst hbe; exact heo
 ·exact ⟨u,k b u hbe q⟩
end
def E2 (h : Heap) (H : Hp) : List Addr := (List.range h.objs.size).filter fun a => (H a).isSome
def Cp (h : Heap) (H : Hp) : Heap := PySem.W.hideAll h (E2 h H)
theorem Ld (h : Heap) (H : Hp) : (Cp h H).objs.size = h.objs.size := PySem.W.hideAll_size _ _
theorem Le {h : Heap} {H : Hp} {b : Addr} {o : Obj} (e : h.get? b = some o) (n : H b = none) : (Cp h H).get? b = some o :=
 PySem.W.hideAll_get _ e fun hm => by
  have q : (H b).isSome = true := (List.mem_filter.mp hm).2
  rw [n] at q; simp at q
theorem Lf {h : Heap} {H : Hp} {b : Addr} {o : Obj} (e : (Cp h H).get? b = some o) : h.get? b = some o /\ H b = none := by
 have e' : h.get? b = some o := PySem.W.of_hideAll (E2 h H) e
 refine ⟨e',?_⟩
 cases q : H b with
 | none => rfl
 | some x =>
  have hm : b ∈ E2 h H := List.mem_filter.mpr ⟨List.mem_range.mpr (Heap.lt_size e'),by simp [q]⟩
  have z : (Cp h H).get? b = none := PySem.W.hideAll_none (E2 h H) hm
  rw [z] at e; cases e
def Lg (g h : Heap) (L : Addr) : List (Addr × Obj) := (List.range h.objs.size).filterMap fun a => if a = L \/ (g.get? a).isSome = true then none else (h.get? a).map fun o => (a,o)
def rest (g h : Heap) (L d : Addr) : List (Addr × Obj) := (Lg g h L).filter fun p => decide (p.1 ≠ d)
end L2
namespace L2
open PySem PySem.Spec PyProof.Rows
variable {g' : Array GenState} {t' i : Nat} {d' : Drawn} {ch : List Addr} {M : Model} {E : Value -> Shared -> Prop} {v : V} {u : Value} {Q : Unit -> Shared -> Prop}
structure Mod (K : PySem.W.Frag) (mg : Str -> Option Value) (base : Heap) : Prop where
 kin : K.In base
 glob : base.Ns mainGlobals mg
 blt : ∃ mb,base.Ns builtinsNs mb /\ ∀ x : Str,x ≠ "__name__" -> mb x = bootBuiltins x
 nolimit : base.NoLimit
structure Cx where
 prog : Program
 w : World
 K : PySem.W.Frag
 mg : Str -> Option Value
 base : Heap
 A : Around
 N : List Str
 s₀ : Shared
 H₀ : Hp
 env : Env
 outer : List Env
 stack : List Env
 ex : List Addr
 fn : Str -> Bool
 calm : Bool
 pn : List (Addr × Obj)
 xe : Value -> Shared -> Prop
def AE (l : List Env) : List Addr := l.filterMap (·.frame)
abbrev Cx.fs (X : Cx) : List Addr := AE X.outer
def Eu (sc : Scope) (x : Str) : Prop := sc.names.lookup x = some .local \/ sc.names.lookup x = some .cell \/ sc.names.lookup x = some .free
def Dq (sc : Scope) (x : Str) : Prop := sc.names.lookup x = some .local \/ sc.names.lookup x = some .cell
def Lh (env : Env) (h : Heap) (m : Str -> Option Value) (x : Str) (u : Value) : Prop :=
 (env.kindOf x = some .local /\ m x = some u) \/ ((env.kindOf x = some .cell \/ env.kindOf x = some .free) /\ ∃ c,env.cells.lookup x = some c /\ h.IsCell c (some u))
structure Cx.Ok (X : Cx) : Prop where
 mod : Mod X.K X.mg X.base
 kind : X.env.scope.kind = .function
 glob : X.env.globals = mainGlobals
 blt : X.env.builtins = builtinsNs
 above : X.s₀.heap.objs.size <= X.env.locals
 inj : ∀ x y c,X.env.cells.lookup x = some c -> X.env.cells.lookup y = some c -> x = y
 has : ∀ x,(X.env.kindOf x = some .cell \/ X.env.kindOf x = some .free) -> ∃ c,X.env.cells.lookup x = some c
 cab : ∀ x c,X.fn x = true -> X.env.cells.lookup x = some c -> X.s₀.heap.objs.size <= c
 hd : X.calm = true -> X.A.handled = none
 frames : X.A.frames = some X.stack
 stk : X.stack = X.outer \/ (X.stack = X.env :: X.outer /\ X.env.frame = some X.env.locals)
 exf : ∀ b ∈ X.ex,b ≠ X.env.locals /\ ∀ x c,X.env.cells.lookup x = some c -> c ≠ b
 bs : ∀ b o,X.base.get? b = some o -> X.s₀.heap.get? b = some o /\ X.H₀ b = none
 bsz : X.base.objs.size <= X.s₀.heap.objs.size
 noex : ∀ b o,X.base.get? b = some o -> b ∉ X.ex
 exfs : ∀ b ∈ X.ex,b ∉ X.fs
 funs : X.s₀.heap.FunFrames X.base X.outer
 frf : ∀ b ∈ X.fs,X.H₀ b = none
structure Ac (X : Cx) (pins : List (Addr × Obj)) (σ : List (Option V)) (H : Hp) (s : Shared) : Prop where
 ok : X.Ok
 os : s.os = X.s₀.os
 bare : AllBare s.gens
 base : Un X.fs X.ex X.H₀ H X.s₀.heap s.heap
 loc : ∃ m,s.heap.Ns X.env.locals m /\ ∀ (i : Nat) (x : Str) (v : V),X.N[i]? = some x -> σ[i]? = some (some v) -> Eu X.env.scope x -> ∃ u,Aw v u /\ Lh X.env s.heap m x u
 cell : ∀ x c,X.env.cells.lookup x = some c -> ∃ v,s.heap.IsCell c v
 free : H X.env.locals = none
 freeC : ∀ x c,X.env.cells.lookup x = some c -> H c = none
 pin : ∀ p ∈ X.pn ++ pins,s.heap.get? p.1 = some p.2 /\ H p.1 = none /\ p.1 ≠ X.env.locals /\ p.1 ∉ X.fs /\ ∀ v,p.2.data ≠ .cell v
 hok : HOk X.prog X.w H s.heap
 len : σ.length = X.N.length
section
variable {X : Cx} {pins : List (Addr × Obj)} {σ : List (Option V)} {H H' : Hp} {s : Shared} {h' : Heap}
theorem Cx.Ok.nofr (ok : X.Ok) {b : Addr} {o : Obj} (e : X.base.get? b = some o) : b ∉ X.fs := fun hb => by
 have := (ok.funs.mem hb).1
 rw [e] at this; cases this
theorem Ac.bs (I : Ac X pins σ H s) : ∀ b o,X.base.get? b = some o -> s.heap.get? b = some o /\ H b = none := fun b o e =>
 ⟨I.base.keep b o (I.ok.bs b o e).1 (I.ok.bs b o e).2 (I.ok.nofr e) (I.ok.noex b o e),I.base.free b o (I.ok.bs b o e).1 (I.ok.bs b o e).2 (I.ok.noex b o e)⟩
theorem Ac.bk (I : Ac X pins σ H s) : ∀ b o,X.base.get? b = some o -> s.heap.get? b = some o := fun b o e => (I.bs b o e).1
theorem Ac.mod (I : Ac X pins σ H s) : Mod X.K X.mg X.base := I.ok.mod
theorem Ac.kIn (I : Ac X pins σ H s) : X.K.In s.heap := I.ok.mod.kin.keeps I.bk
theorem Ac.lt (I : Ac X pins σ H s) : X.env.locals < s.heap.objs.size := let ⟨_,hn,_⟩ := I.loc; hn.lt
theorem Ac.sz (I : Ac X pins σ H s) : X.s₀.heap.objs.size <= s.heap.objs.size := Nat.le_trans I.ok.above (Nat.le_of_lt I.lt)
theorem Ac.nofs (I : Ac X pins σ H s) {a : Addr} (h : s.heap.objs.size <= a) : a ∉ X.fs := fun hb => by
 obtain ⟨_,o,ho,_⟩ := I.ok.funs.mem hb
 exact absurd (Nat.lt_of_lt_of_le (Heap.lt_size ho) (Nat.le_trans I.sz h)) (Nat.lt_irrefl _)
theorem Ac.cne (I : Ac X pins σ H s) : ∀ x c,X.env.cells.lookup x = some c -> c ≠ X.env.locals := fun x c e z => by
 obtain ⟨v,o,ho,hd⟩ := I.cell x c e
 obtain ⟨m,⟨o',es,ep,ho',hd',_⟩,_⟩ := I.loc
 rw [z,ho'] at ho; cases ho; rw [hd'] at hd; cases hd
theorem Ac.funs (I : Ac X pins σ H s) : s.heap.FunFrames X.base X.outer := by
 have all : ∀ (l : List Env),(∀ b ∈ AE l,b ∈ X.fs) -> X.s₀.heap.FunFrames X.base l -> s.heap.FunFrames X.base l := by
  intro l
  induction l with
  | nil => intro _ _; trivial
  | cons env r ih =>
   intro hs hl
   obtain ⟨hk,⟨L,o,hf,hn,ho,hd⟩,hr⟩ := hl
   have hL : L ∈ X.fs := hs L (by unfold AE; rw [List.filterMap_cons,hf]; exact List.mem_cons_self)
   obtain ⟨sl,e⟩ := I.base.slot L o ho (I.ok.frf L hL) hL fun z => I.ok.exfs L z hL
   exact ⟨hk,⟨L,_,hf,hn,e,hd⟩,ih (fun b hb => hs b (by unfold AE; rw [List.filterMap_cons,hf]; exact List.mem_cons_of_mem _ hb)) hr⟩
 exact all X.outer (fun _ hb => hb) I.ok.funs
theorem Ac.stack (I : Ac X pins σ H s) : s.heap.FunFrames X.base X.stack := by
 rcases I.ok.stk with e | ⟨e,hf⟩
 ·rw [e]; exact I.funs
 ·rw [e]
  obtain ⟨m,hn,_⟩ := I.loc
  refine .cons (by rw [I.ok.kind]; decide) hf hn ?_ I.funs
  exact Heap.get?_none_of_le (Nat.le_trans I.ok.bsz I.ok.above)
theorem Ac.stkSub (I : Ac X pins σ H s) : ∀ b ∈ AE X.stack,b ∈ X.env.locals :: X.fs := fun b hb => by
 rcases I.ok.stk with e | ⟨e,hf⟩
 ·rw [e] at hb; exact List.mem_cons_of_mem _ hb
 ·rw [e] at hb
  unfold AE at hb
  rw [List.filterMap_cons,hf] at hb
  exact hb
theorem Ac.stkFree (I : Ac X pins σ H s) : ∀ b ∈ AE X.stack,H b = none := fun b hb => by
 rcases List.mem_cons.mp (I.stkSub b hb) with e | hb
 ·rw [e]; exact I.free
 ·obtain ⟨_,o,ho,_⟩ := I.ok.funs.mem hb
  exact I.base.free b o ho (I.ok.frf b hb) fun z => I.ok.exfs b z hb
theorem Ac.step (I : Ac X pins σ H s)
  (hch : ∀ b ∈ ch,(b ∈ X.ex \/ X.s₀.heap.objs.size <= b) /\ b ≠ X.env.locals /\ (∀ x c,X.env.cells.lookup x = some c -> c ≠ b) /\ ∀ p ∈ X.pn ++ pins,p.1 ≠ b)
  (keep : ∀ b o,b ≠ X.env.locals -> b ∉ X.fs -> b ∉ ch -> s.heap.get? b = some o -> H b = none -> h'.get? b = some o)
  (slot : ∀ b o,b ≠ X.env.locals -> b ∈ X.fs -> b ∉ ch -> s.heap.get? b = some o -> H b = none -> ∃ sl,h'.get? b = some { o with slots := sl }) (free : ∀ b o,b ∉ ch -> s.heap.get? b = some o -> H b = none -> H' b = none)
  (there : ∀ b o,b ∉ ch -> s.heap.get? b = some o -> ∃ o',h'.get? b = some o')
  (tups : ∀ b xs,H b = some (.tup xs) -> H' b = some (.tup xs)) (frzs : ∀ b o u,H b = some (.frz o u) -> H' b = some (.frz o u)) (tbls : ∀ b ps,H b = some (.tbl ps) -> ∃ more,H' b = some (.tbl (ps ++ more)))
  (ns : ∀ m,s.heap.Ns X.env.locals m -> h'.Ns X.env.locals m) (hok : HOk X.prog X.w H' h') (hg : AllBare g') :
  Ac X pins σ H' { s with heap := h',gens := g',drawn := d',toks := t' } := by
 have neL : ∀ b o,X.s₀.heap.get? b = some o -> b ≠ X.env.locals := fun b o e => Nat.ne_of_lt (Nat.lt_of_lt_of_le (Heap.lt_size e) I.ok.above)
 have neC : ∀ b o,X.s₀.heap.get? b = some o -> b ∉ X.ex -> b ∉ ch := fun b o e hx hb => by
  rcases (hch b hb).1 with z | z
  ·exact hx z
  ·exact absurd (Nat.lt_of_lt_of_le (Heap.lt_size e) z) (Nat.lt_irrefl _)
 have cellK : ∀ x c,X.env.cells.lookup x = some c -> ∀ v,s.heap.IsCell c v -> h'.IsCell c v := fun x c e v ⟨o,ho,hd⟩ => by
  have nch : c ∉ ch := fun z => (hch c z).2.2.1 x c e rfl
  by_cases hc : c ∈ X.fs
  ·obtain ⟨sl,q⟩ := slot c o (I.cne x c e) hc nch ho (I.freeC x c e)
   exact ⟨_,q,hd⟩
  ·exact ⟨o,keep c o (I.cne x c e) hc nch ho (I.freeC x c e),hd⟩
 refine ⟨I.ok,I.os,hg,⟨fun b o e n hb hx => ?_,fun b o e n hb hx => ?_,fun b o e n hx => ?_,fun b o e hx => ?_,fun b xs e => tups b xs (I.base.tups b xs e),fun b o xs e => frzs b o xs (I.base.frzs b o xs e),fun b ps e => ?_⟩,?_,fun x c e => ?_,?_,fun x c e => ?_,fun p hp => ?_,hok,I.len⟩
 ·exact keep b o (neL b o e) hb (neC b o e hx) (I.base.keep b o e n hb hx) (I.base.free b o e n hx)
 ·obtain ⟨sl,e1⟩ := I.base.slot b o e n hb hx
  obtain ⟨sl',e2⟩ := slot b _ (neL b o e) hb (neC b o e hx) e1 (I.base.free b o e n hx)
  exact ⟨sl',e2⟩
 ·obtain ⟨o',e1⟩ := I.base.there b o e hx
  exact free b o' (neC b o e hx) e1 (I.base.free b o e n hx)
 ·obtain ⟨o',e1⟩ := I.base.there b o e hx
  exact there b o' (neC b o e hx) e1
 ·obtain ⟨m1,e1⟩ := I.base.tbls b ps e
  obtain ⟨m2,e2⟩ := tbls b _ e1
  exact ⟨m1 ++ m2,by rw [e2,Array.append_assoc]⟩
 ·obtain ⟨m,hn,hl⟩ := I.loc
  refine ⟨m,ns m hn,fun i x v e1 e2 e3 => ?_⟩
  obtain ⟨u,r,l⟩ := hl i x v e1 e2 e3
  refine ⟨u,r,?_⟩
  rcases l with l | ⟨k,c,e,z⟩
  ·exact .inl l
  ·exact .inr ⟨k,c,e,cellK x c e _ z⟩
 ·obtain ⟨v,z⟩ := I.cell x c e
  exact ⟨v,cellK x c e v z⟩
 ·obtain ⟨m,⟨o,_,_,ho,_⟩,_⟩ := I.loc
  exact free _ o (fun z => (hch _ z).2.1 rfl) ho I.free
 ·obtain ⟨v,o,ho,hd⟩ := I.cell x c e
  exact free c o (fun z => (hch c z).2.2.1 x c e rfl) ho (I.freeC x c e)
 ·obtain ⟨e,n,ne,nf,d⟩ := I.pin p hp
  have nch : p.1 ∉ ch := fun z => (hch p.1 z).2.2.2 p hp rfl
  exact ⟨keep p.1 p.2 ne nf nch e n,free p.1 p.2 nch e n,ne,nf,d⟩
theorem Ac.un (I : Ac X pins σ H s) (u : Un X.fs [] H H' s.heap h') (hok : HOk X.prog X.w H' h') : Ac X pins σ H' { s with heap := h',toks := t' } := by
 obtain ⟨m,⟨o,es,ep,ho,r⟩,_⟩ := id I.loc
 obtain ⟨sl,hL⟩ := u.any ho I.free (by simp)
 exact I.step (g' := s.gens) (d' := s.drawn) (ch := []) (fun _ z => nomatch z) (fun b o _ hb _ e n => u.keep b o e n hb (by simp)) (fun b o _ hb _ e n => u.slot b o e n hb (by simp)) (fun b o _ e n => u.free b o e n (by simp)) (fun b o _ e => u.there b o e (by simp)) u.tups u.frzs u.tbls (fun m' hm => by
  obtain ⟨o',es',ep',ho',r'⟩ := hm
  rw [ho] at ho'; cases ho'
  exact ⟨_,es',ep',hL,r'⟩) hok I.bare
theorem Ac.call (I : Ac X pins σ H s) (u : Un (AE X.stack) ch H H' s.heap h') (hok : HOk X.prog X.w H' h') (hg : AllBare g')
  (hch : ∀ b ∈ ch,(b ∈ X.ex \/ X.s₀.heap.objs.size <= b) /\ b ≠ X.env.locals /\ (∀ x c,X.env.cells.lookup x = some c -> c ≠ b) /\ ∀ p ∈ X.pn ++ pins,p.1 ≠ b) :
  Ac X pins σ H' { s with heap := h',gens := g',drawn := d',toks := t' } := by
 obtain ⟨m,⟨o,es,ep,ho,r⟩,_⟩ := id I.loc
 obtain ⟨sl,hL⟩ := u.any ho I.free fun z => (hch _ z).2.1 rfl
 exact I.step (ch := ch) hch (fun b o hL hb hc e n => u.keep b o e n (fun z => (List.mem_cons.mp (I.stkSub b z)).elim hL hb) hc) (fun b o _ _ hc e n => u.any e n hc) (fun b o hc e n => u.free b o e n hc) (fun b o hc e => u.there b o e hc) u.tups u.frzs u.tbls (fun m' hm => by
  obtain ⟨o',es',ep',ho',r'⟩ := hm
  rw [ho] at ho'; cases ho'
  exact ⟨_,es',ep',hL,r'⟩) hok hg
theorem Ac.turned {it : Addr} (I : Ac X pins σ H s) (k : ∀ b o,b ≠ it -> s.heap.get? b = some o -> h'.get? b = some o) (hn : H it = none) (hL : it ≠ X.env.locals)
  (h1 : it ∈ X.ex \/ X.s₀.heap.objs.size <= it) (h2 : ∀ x c,X.env.cells.lookup x = some c -> c ≠ it) (h3 : ∀ p ∈ X.pn ++ pins,p.1 ≠ it) : Ac X pins σ H { s with heap := h',toks := t' } := by
 have nit : ∀ b u,H b = some u -> b ≠ it := fun b u e z => by rw [z,hn] at e; cases e
 refine I.step (g' := s.gens) (d' := s.drawn) (ch := [it]) (fun b hb => ?_) (fun b o _ _ hc e _ => k b o (fun z => hc (by simp [z])) e) (fun b o _ _ hc e _ => ⟨o.slots,k b o (fun z => hc (by simp [z])) e⟩) (fun _ _ _ _ n => n)
  (fun b o hc e => ⟨o,k b o (fun z => hc (by simp [z])) e⟩) (fun _ _ e => e) (fun _ _ _ e => e) (fun b ps e => ⟨#[],by rw [e]; simp⟩) (fun m hm => ?_) (fun b u e => ?_) I.bare
 ·have e : b = it := by simpa using hb
  subst e
  exact ⟨h1,hL,h2,h3⟩
 ·obtain ⟨o,es,ep,ho,r⟩ := hm
  exact ⟨o,es,ep,k _ o (Ne.symm hL) ho,r⟩
 ·refine (I.hok b u e).stay (fun c v hc q => k c v ?_ q) (fun _ q => q) fun _ _ q => q
  rcases hc with z | z
  ·rw [z]; exact nit b u e
  ·exact nit c _ z
theorem Ac.tok (I : Ac X pins σ H s) (t : Nat) : Ac X pins σ H { s with toks := t } := I.un (h' := s.heap) (t' := t) Un.refl I.hok
theorem Ac.kept (I : Ac X pins σ H s) (k : ∀ b u,s.heap.get? b = some u -> h'.get? b = some u) : Ac X pins σ H { s with heap := h',toks := t' } := I.un (Un.kept k) (I.hok.kept k)
theorem Ac.laid {a : Addr} {o : HO} (I : Ac X pins σ H s) (k : ∀ b u,s.heap.get? b = some u -> h'.get? b = some u) (hp : s.heap.objs.size <= a) (new : ObjOk X.prog X.w (upd H a o) h' a o) :
  Ac X pins σ (upd H a o) { s with heap := h',toks := t' } := I.un (Un.laid k hp (I.hok.fresh hp)) (I.hok.laid k hp new)
theorem Ac.write {x e : Addr} {o : HO} (I : Ac X pins σ H s) (mu : E1 (H x)) (he : e = x \/ H e = some (.own x)) (k : ∀ b u,b ≠ e -> s.heap.get? b = some u -> h'.get? b = some u) (heo : ∃ u,h'.get? e = some u)
  (new : ObjOk X.prog X.w (upd H x o) h' x o) : Ac X pins σ (upd H x o) { s with heap := h',toks := t' } := I.un (Un.write mu he k heo) (I.hok.write mu he k heo new)
theorem Ac.weak {σ' : List (Option V)} (I : Ac X pins σ H s) (hl : σ'.length = σ.length) (w : ∀ (i : Nat) v,σ'[i]? = some (some v) -> σ[i]? = some (some v)) : Ac X pins σ' H s :=
 ⟨I.ok,I.os,I.bare,I.base,let ⟨m,hn,hl'⟩ := I.loc; ⟨m,hn,fun i x v e1 e2 e3 => hl' i x v e1 (w i v e2) e3⟩,I.cell,I.free,I.freeC,I.pin,I.hok,hl.trans I.len⟩
theorem Ac.pins_of {pins' : List (Addr × Obj)} (I : Ac X pins σ H s) (h : ∀ p ∈ pins',s.heap.get? p.1 = some p.2 /\ H p.1 = none /\ p.1 ≠ X.env.locals /\ p.1 ∉ X.fs /\ ∀ v,p.2.data ≠ .cell v) : Ac X pins' σ H s :=
 ⟨I.ok,I.os,I.bare,I.base,I.loc,I.cell,I.free,I.freeC,fun p hp => (List.mem_append.mp hp).elim (fun z => I.pin p (List.mem_append_left _ z)) (h p),I.hok,I.len⟩
theorem GI {N : List Str} (hN : N.Nodup) {i j : Nat} {x : Str} (a : N[i]? = some x) (b : N[j]? = some x) : i = j := by
 obtain ⟨h1,e1⟩ := List.getElem?_eq_some_iff.mp a
 obtain ⟨h2,e2⟩ := List.getElem?_eq_some_iff.mp b
 exact (List.getElem_inj hN).mp (e1.trans e2.symm)
theorem GJ {A : Around} {x : Str} (I : Ac X pins σ H s) (hN : X.N.Nodup) (hi : X.N[i]? = some x) (hx : Dq X.env.scope x) (r : Aw v u)
  (h : ∀ s',Ac X pins (σ.set i (some v)) H s' -> (∃ a,Heap.SameBut a s.heap s'.heap /\ (a = X.env.locals \/ X.env.cells.lookup x = some a)) -> Q () s') (hf : X.fn x = true \/ X.env.scope.names.lookup x = some .local := by first | exact .inl rfl | exact .inr rfl | assumption) : wpAny M A (storeName X.env x u) Q E s := by
 obtain ⟨m,hn,hl⟩ := id I.loc
 have hcls : (X.env.scope.kind == .class || (X.env.scope.kind == .module && X.env.locals != X.env.globals)) = false := by rw [I.ok.kind]; rfl
 have hiσ : i < σ.length := by rw [I.len]; exact (List.getElem?_eq_some_iff.mp hi).1
 have cne := I.cne
 have tracked : ∀ {a : Addr} {h' : Heap},(∃ o,s.heap.get? a = some o /\ H a = none) -> Heap.SameBut a s.heap h' -> HOk X.prog X.w H h' := fun {a h'} ha hs b ob e => by
  obtain ⟨_,_,hfree⟩ := ha
  refine (I.hok b ob e).stay (fun c w' hc q => (hs.2 c ?_).trans q) (fun _ q => q) fun _ _ q => q
  rintro rfl
  rcases hc with rfl | hc
  ·rw [hfree] at e; cases e
  ·rw [hfree] at hc; cases hc
 rcases hx with hk | hk
 ·refine wpAny_storeName_local hk hn (fun h' hn' hs => ?_) hcls
  obtain ⟨oL,_,_,hoL,_⟩ := id hn
  refine h _ ⟨I.ok,I.os,I.bare,⟨fun b o e n hb hx => ?_,fun b o e n hb hx => ?_,I.base.free,fun b o e hx => ?_,I.base.tups,I.base.frzs,I.base.tbls⟩,⟨_,hn',fun j y v' e1 e2 e3 => ?_⟩,fun y c e => ?_,I.free,I.freeC,fun p hp => ?_,tracked ⟨oL,hoL,I.free⟩ hs,by simpa using I.len⟩ ⟨_,hs,.inl rfl⟩
  ·exact (hs.2 b (Nat.ne_of_lt (Nat.lt_of_lt_of_le (Heap.lt_size e) I.ok.above))).trans (I.base.keep b o e n hb hx)
  ·obtain ⟨sl,e1⟩ := I.base.slot b o e n hb hx
   exact ⟨sl,(hs.2 b (Nat.ne_of_lt (Nat.lt_of_lt_of_le (Heap.lt_size e) I.ok.above))).trans e1⟩
  ·obtain ⟨o',e1⟩ := I.base.there b o e hx
   exact ⟨o',(hs.2 b (Nat.ne_of_lt (Nat.lt_of_lt_of_le (Heap.lt_size e) I.ok.above))).trans e1⟩
  ·by_cases hj : j = i
   ·subst hj
    rw [hi] at e1; cases e1
    rw [List.getElem?_set_self hiσ] at e2
    cases e2
    exact ⟨u,r,.inl ⟨hk,by simp⟩⟩
   ·rw [List.getElem?_set_ne (Ne.symm hj)] at e2
    obtain ⟨u',r',q⟩ := hl j y v' e1 e2 e3
    refine ⟨u',r',?_⟩
    rcases q with ⟨k,e⟩ | ⟨k,c,e,z⟩
    ·refine .inl ⟨k,?_⟩
     have : y ≠ x := fun e => hj (GI hN e1 (e ▸ hi))
     simp [this,e]
    ·exact .inr ⟨k,c,e,z.sameBut hs (cne y c e)⟩
  ·obtain ⟨w',z⟩ := I.cell y c e
   exact ⟨w',z.sameBut hs (cne y c e)⟩
  ·obtain ⟨e,n,ne,nf,d⟩ := I.pin p hp
   exact ⟨(hs.2 p.1 ne).trans e,n,ne,nf,d⟩
 ·have hfn : X.fn x = true := by
   rcases hf with z | z
   ·exact z
   ·rw [z] at hk; cases hk
  obtain ⟨c,hc⟩ := I.ok.has x (.inl hk)
  obtain ⟨w',z⟩ := I.cell x c hc
  refine wpAny_storeName_cell I.ok.kind hk hc z (fun h' hc' hs => ?_)
  obtain ⟨oc,hoc,hocd⟩ := id z
  refine h { s with heap := h' } ⟨I.ok,I.os,I.bare,⟨fun b o e n hb hx => ?_,fun b o e n hb hx => ?_,I.base.free,fun b o e hx => ?_,I.base.tups,I.base.frzs,I.base.tbls⟩,⟨m,hn.sameBut hs (Ne.symm (cne x c hc)),fun j y v' e1 e2 e3 => ?_⟩,fun y c' e => ?_,I.free,I.freeC,fun p hp => ?_,tracked ⟨oc,hoc,I.freeC x c hc⟩ hs,by simpa using I.len⟩ ⟨c,hs,.inr hc⟩
  ·exact (hs.2 b (Nat.ne_of_lt (Nat.lt_of_lt_of_le (Heap.lt_size e) (I.ok.cab x c hfn hc)))).trans (I.base.keep b o e n hb hx)
  ·obtain ⟨sl,e1⟩ := I.base.slot b o e n hb hx
   exact ⟨sl,(hs.2 b (Nat.ne_of_lt (Nat.lt_of_lt_of_le (Heap.lt_size e) (I.ok.cab x c hfn hc)))).trans e1⟩
  ·obtain ⟨o',e1⟩ := I.base.there b o e hx
   exact ⟨o',(hs.2 b (Nat.ne_of_lt (Nat.lt_of_lt_of_le (Heap.lt_size e) (I.ok.cab x c hfn hc)))).trans e1⟩
  ·by_cases hj : j = i
   ·subst hj
    rw [hi] at e1; cases e1
    rw [List.getElem?_set_self hiσ] at e2
    cases e2
    exact ⟨u,r,.inr ⟨.inl hk,c,hc,hc'⟩⟩
   ·rw [List.getElem?_set_ne (Ne.symm hj)] at e2
    obtain ⟨u',r',q⟩ := hl j y v' e1 e2 e3
    refine ⟨u',r',?_⟩
    rcases q with q | ⟨k,c',e,z'⟩
    ·exact .inl q
    ·refine .inr ⟨k,c',e,z'.sameBut hs ?_⟩
     rintro rfl
     exact hj (GI hN e1 (I.ok.inj _ _ _ e hc ▸ hi))
  ·by_cases hcc : c' = c
   ·subst hcc; exact ⟨_,hc'⟩
   ·obtain ⟨w2,z2⟩ := I.cell y c' e
    exact ⟨w2,z2.sameBut hs hcc⟩
  ·obtain ⟨e,n,ne,nf,d⟩ := I.pin p hp
   refine ⟨(hs.2 p.1 ?_).trans e,n,ne,nf,d⟩
   intro q
   rw [q,hoc] at e
   have q' : oc = p.2 := Option.some.inj e
   exact d w' (by rw [<- q']; exact hocd)
theorem Ew {A : Around} {x : Str} (I : Ac X pins σ H s) (hN : X.N.Nodup) (hi : X.N[i]? = some x) (hx : Dq X.env.scope x) (r : Aw v u)
  (h : ∀ s',Ac X pins (σ.set i (some v)) H s' -> Q () s') (hf : X.fn x = true \/ X.env.scope.names.lookup x = some .local := by first | exact .inl rfl | exact .inr rfl | assumption) : wpAny M A (storeName X.env x u) Q E s :=
 GJ I hN hi hx r (fun s' I' _ => h s' I') hf
theorem Ac.call' {s' : Shared} (I : Ac X pins σ H s) (ho : s'.os = s.os) (u : Un (AE X.stack) ch H H' s.heap s'.heap) (hok : HOk X.prog X.w H' s'.heap) (hg : AllBare s'.gens)
  (hch : ∀ b ∈ ch,(b ∈ X.ex \/ X.s₀.heap.objs.size <= b) /\ b ≠ X.env.locals /\ (∀ x c,X.env.cells.lookup x = some c -> c ≠ b) /\ ∀ p ∈ X.pn ++ pins,p.1 ≠ b) : Ac X pins σ H' s' := by
 obtain ⟨h',g',d',t',o'⟩ := s'
 have e : o' = s.os := ho
 subst e
 exact I.call (g' := g') (t' := t') (d' := d') u hok hg hch
end
abbrev XK := Value -> Option Addr -> Hp -> Prop
abbrev St := List (Option V)
abbrev VK := V -> Hp -> Prop
abbrev TE := St -> Hp -> VK -> Prop
abbrev TT := St -> Hp -> (Bool -> Hp -> Prop) -> Prop
abbrev TA := St -> Hp -> (List V -> Hp -> Prop) -> Prop
structure CS where
 nx : St -> Hp -> Prop
 rt : VK
 bk : St -> Hp -> Prop := fun _ _ => False
 ct : St -> Hp -> Prop := fun _ _ => False
abbrev TS := CS -> St -> Hp -> Prop
def EP (X : Cx) (pins : List (Addr × Obj)) (σ : St) (Q : VK) (u : Value) (s' : Shared) : Prop := ∃ v H',Ac X pins σ H' s' /\ Aw v u /\ Q v H'
def TP (X : Cx) (pins : List (Addr × Obj)) (σ : St) (Q : Bool -> Hp -> Prop) (b : Bool) (s' : Shared) : Prop := ∃ H',Ac X pins σ H' s' /\ Q b H'
def AP (X : Cx) (pins : List (Addr × Obj)) (σ : St) (Q : List V -> Hp -> Prop) (us : List Value) (s' : Shared) : Prop := ∃ vs H',Ac X pins σ H' s' /\ At vs us /\ Q vs H'
def SP (X : Cx) (pins : List (Addr × Obj)) (D : CS) (f : Flow) (s' : Shared) : Prop :=
 match f with
 | .next => ∃ σ' H',Ac X pins σ' H' s' /\ D.nx σ' H'
 | .brk => ∃ σ' H',Ac X pins σ' H' s' /\ D.bk σ' H'
 | .cont => ∃ σ' H',Ac X pins σ' H' s' /\ D.ct σ' H'
 | .ret u => ∃ v σ' H',Ac X pins σ' H' s' /\ Aw v u /\ D.rt v H'
def PE (X : Cx) (e : Expr) (t : TE) : Prop :=
 ∀ (pins : List (Addr × Obj)) (s : Shared) (σ : St) (H : Hp) (Q : VK),Ac X pins σ H s -> t σ H Q -> wpAny (model X.prog X.w) X.A (eval e X.env) (EP X pins σ Q) X.xe s
def PT (X : Cx) (e : Expr) (t : TT) : Prop :=
 ∀ (pins : List (Addr × Obj)) (s : Shared) (σ : St) (H : Hp) (Q : Bool -> Hp -> Prop),Ac X pins σ H s -> t σ H Q -> wpAny (model X.prog X.w) X.A (isTrue e X.env (eval e X.env)) (TP X pins σ Q) X.xe s
def PW (X : Cx) (e : Expr) (t : TT) : Prop :=
 ∀ (whole : Sem Value) (pins : List (Addr × Obj)) (s : Shared) (σ : St) (H : Hp) (Q : Bool -> Hp -> Prop),Ac X pins σ H s -> t σ H Q -> wpAny (model X.prog X.w) X.A (isTrue e X.env whole) (TP X pins σ Q) X.xe s
theorem PW.pt {X : Cx} {e : Expr} {t : TT} (h : PW X e t) : PT X e t := h _
def PA (X : Cx) (es : List Expr) (t : TA) : Prop :=
 ∀ (pos : Pos) (pins : List (Addr × Obj)) (s : Shared) (σ : St) (H : Hp) (Q : List V -> Hp -> Prop),Ac X pins σ H s -> t σ H Q -> wpAny (model X.prog X.w) X.A (spliced (backTo pos (starEach es X.env))) (AP X pins σ Q) X.xe s
def PS (X : Cx) (st : Stmt) (t : TS) : Prop :=
 ∀ (pins : List (Addr × Obj)) (s : Shared) (σ : St) (H : Hp) (D : CS),Ac X pins σ H s -> t D σ H -> wpAny (model X.prog X.w) X.A (exec st X.env) (SP X pins D) X.xe s
def PSs (X : Cx) (st : List Stmt) (t : TS) : Prop :=
 ∀ (pins : List (Addr × Obj)) (s : Shared) (σ : St) (H : Hp) (D : CS),Ac X pins σ H s -> t D σ H -> wpAny (model X.prog X.w) X.A (execs st X.env) (SP X pins D) X.xe s
theorem Ar {α : Type} {t : Sem α} {Q Q' : α -> Shared -> Prop} {A : Around} {s : Shared} (h : wpAny M A t Q E s) (hQ : ∀ a s,Q a s -> Q' a s) : wpAny M A t Q' E s := wpAny_mono h hQ fun _ _ x => x
end L2
namespace L2
open PySem PySem.Spec PyProof.Rows
variable {E Q : Value -> Shared -> Prop} {pins : List (Addr × Obj)} {s : Shared} {σ : St} {H : Hp} {u : Value}
section
variable {X : Cx}
def Li (i : Nat) : TE := fun σ H Q => ∃ v,σ[i]? = some (some v) /\ Q v H
def tC (v : V) : TE := fun _ H Q => Q v H
theorem GK {i : Nat} {x : Str} {pos : Pos} (hN : X.N[i]? = some x) (hv : Eu X.env.scope x) (hd : (x == ("__debug__" : Str)) = false := by decide) (hcd : (x == ("__classdict__" : Str)) = false := by decide) : PE X (.Name x pos) (Li i) := by
 intro pins s σ H Q I h
 obtain ⟨v,e,h⟩ := h
 obtain ⟨m,hn,hl⟩ := I.loc
 obtain ⟨u,r,l⟩ := hl i x v hN e hv
 have fin : EP X pins σ Q u s := ⟨v,H,I,r,h⟩
 rcases l with ⟨hk,hm⟩ | ⟨hk,c,hc,hcell⟩
 ·exact wpAny_Name (wpAny_loadName_local I.ok.kind hk hn hm fin) hd
 ·rcases hk with hk | hk
  ·exact wpAny_Name (wpAny_loadName_cell I.ok.kind hk hc hcell fin) hd
  ·exact wpAny_Name (wpAny_loadName_free I.ok.kind hk hc hcell fin hcd) hd
theorem Ae {i j pos} : PE X (.Constant (.int i) j pos) (tC (.int i)) := fun _ _ _ H _ I h => wpAny_Constant_int ⟨.int i,H,I.tok _,⟨_,rfl⟩,h⟩
theorem BH {b j pos} : PE X (.Constant (.bool b) j pos) (tC (.bl b)) := fun _ _ _ H _ I h => Constant_bool ⟨.bl b,H,I,rfl,h⟩
theorem BC {j pos} : PE X (.Constant .none j pos) (tC .non) := fun _ _ _ H _ I h => Constant_none ⟨.non,H,I,rfl,h⟩
theorem AK {x j pos} : PE X (.Constant (.str x) j pos) (tC (.str x)) := fun _ _ _ H _ I h => Calls.Constant_str ⟨.str x,H,I.tok _,⟨_,rfl⟩,h⟩
def Gl (X : Cx) (x : Str) : Prop := X.env.kindOf x = some .globalImplicit
theorem DN {x : Str} {pos : Pos} (I : Ac X pins σ H s) (hg : Gl X x) (hm : X.mg x = some u) (h : Q u s)
  (hd : (x == ("__debug__" : Str)) = false := by decide) : wpAny (model X.prog X.w) X.A (eval (.Name x pos) X.env) Q E s :=
 Calls.Name_function_global I.ok.kind hg (Calls.loadGlobal_global (by rw [I.ok.glob]; exact I.mod.glob.keeps I.bk) hm h) hd
theorem Cq {x : Str} {pos : Pos} (I : Ac X pins σ H s) (hg : Gl X x) (hm : X.mg x = none) (hv : bootBuiltins x = some u) (h : Q u s)
  (hn : x ≠ "__name__" := by decide) (hd : (x == ("__debug__" : Str)) = false := by decide) : wpAny (model X.prog X.w) X.A (eval (.Name x pos) X.env) Q E s := by
 obtain ⟨mb,h1,h2⟩ := I.mod.blt
 exact Calls.Name_function_global I.ok.kind hg (Calls.loadGlobal_builtin (by rw [I.ok.glob]; exact I.mod.glob.keeps I.bk) hm (by rw [I.ok.blt]; exact h1.keeps I.bk) ((h2 x hn).trans hv) h) hd
theorem A1 {x : Str} {v : V} {u : Value} {pos : Pos} (hg : Gl X x) (hm : X.mg x = some u) (r : Aw v u) (hd : (x == ("__debug__" : Str)) = false := by decide) : PE X (.Name x pos) (tC v) :=
 fun _ _ _ H _ I h => DN I hg hm ⟨v,H,I,r,h⟩ hd
theorem E3 {x : Str} {v : V} {u : Value} {pos : Pos} (hg : Gl X x) (hm : X.mg x = none) (hv : bootBuiltins x = some u) (r : Aw v u) (hn : x ≠ "__name__" := by decide) (hd : (x == ("__debug__" : Str)) = false := by decide) : PE X (.Name x pos) (tC v) :=
 fun _ _ _ H _ I h => Cq I hg hm hv ⟨v,H,I,r,h⟩ hn hd
variable {a b : Expr} {ta tb : TE} {pos : Pos}
def tB (t : TE) : TT := fun σ H Q => t σ H fun x H1 => ∃ c,x = .bl c /\ Q c H1
variable {tA tB' : TT} {rest : List Expr}
def Lj (t : TT) : TT := fun σ H Q => t σ H fun c H1 => Q (!c) H1
theorem Iy (ha : PT X a tA) : PW X (.BoolOp .And [a] pos) tA := by
 intro wh pins s σ H Q I h
 refine isTrue_and (Ar (ha pins s σ H Q I h) fun c s1 e => ?_)
 cases c with
 | true => exact isTrue_and_nil e
 | false => exact e
theorem Iz (ha : PT X a tA) : PW X (.BoolOp .Or [a] pos) tA := by
 intro wh pins s σ H Q I h
 refine isTrue_or (Ar (ha pins s σ H Q I h) fun c s1 e => ?_)
 cases c with
 | false => exact isTrue_or_nil e
 | true => exact e
theorem Cr (ha : PT X a tA) : PT X (.UnaryOp .Not a pos) (Lj tA) := by
 intro pins s σ H Q I h
 exact isTrue_not (ha pins s σ H (fun c H1 => Q (!c) H1) I h)
theorem Cs {op} {t : TE} (h : PE X a t) : PE X (.BoolOp op [a] pos) t := fun pins s σ H Q I hw => BoolOp_one (h pins s σ H Q I hw)
end
end L2
namespace L2
open PySem PySem.Spec PyProof.Rows
variable {P : Program} {tg : Expr}
def Am (K : PySem.W.Frag) (H : Hp) (a : Addr) (xs : List V) : Prop :=
 Rd H a (.lst xs) \/
  ∃ (o : Obj) (its : Array Value) (n : Nat),K.lookup a = some o /\ o.cls = .type "list" /\ o.dict = none /\ o.data = .seq its n /\ its.size <= sizeLine /\ At xs its.toList
def Af (K : PySem.W.Frag) (H : Hp) (a : Addr) (xs : List V) : Prop :=
 Rd H a (.tup xs) \/
  ∃ (o : Obj) (its : Array Value) (n : Nat),K.lookup a = some o /\ o.cls = .type "tuple" /\ o.data = .seq its n /\ its.size <= sizeLine /\ At xs its.toList
def Lk : Value -> Option V
 | .none => some .non
 | .bool b => some (.bl b)
 | .int i _ => some (.int i)
 | .str x _ => some (.str x)
 | .bytes b _ => some (.byt b)
 | .float b _ => some (.flt b)
 | .ref a => some (.ref a)
 | .type n => some (.ty n)
 | _ => none
theorem Aw.abs {x : V} {u : Value} (r : Aw x u) : Lk u = some x := by
 cases x with
 | non => cases r; rfl
 | bl _ => cases r; rfl
 | int _ => obtain ⟨t,rfl⟩ := r; rfl
 | str _ => obtain ⟨t,rfl⟩ := r; rfl
 | byt _ => obtain ⟨t,rfl⟩ := r; rfl
 | flt _ => obtain ⟨t,rfl⟩ := r; rfl
 | ref _ => cases r; rfl
 | ty _ => cases r; rfl
theorem Aw.inj {x y : V} {u : Value} (r : Aw x u) (q : Aw y u) : x = y := Option.some.inj (r.abs.symm.trans q.abs)
theorem At.inj : ∀ {xs ys : List V} {us : List Value},At xs us -> At ys us -> xs = ys
 | _,_,_,.nil,.nil => rfl
 | _,_,_,.cons r t,.cons r' t' => by rw [r.inj r',At.inj t t']
section
variable {X : Cx} {pins : List (Addr × Obj)} {σ : St} {H : Hp} {s : Shared} {a : Addr} {xs ys : List V}
theorem Am.of {K : PySem.W.Frag} (h : H a = some (.lst xs)) : Am K H a xs := .inl (.inl h)
theorem Af.of {K : PySem.W.Frag} (h : H a = some (.tup xs)) : Af K H a xs := .inl (.inl h)
theorem Ac.list (I : Ac X pins σ H s) (h : Am X.K H a xs) : ∃ its : List Value,At xs its /\ PlainL s.heap a its.toArray /\ xs.length <= sizeLine := by
 rcases h with h | ⟨o,its,n,hk,hc,hd,hs,hz,r⟩
 ·obtain ⟨z,its,n,r,e⟩ := h.ok I.hok
  exact ⟨its,r,⟨_,n,e,rfl,rfl,rfl⟩,z⟩
 ·refine ⟨its.toList,r,⟨o,n,I.kIn a o hk,hc,hd,by simpa using hs⟩,?_⟩
  have e := r.length
  simp only [Array.length_toList] at e
  omega
theorem Ac.tuple (I : Ac X pins σ H s) (h : Af X.K H a xs) : ∃ its : List Value,At xs its /\ IsTup s.heap a its.toArray /\ xs.length <= sizeLine := by
 rcases h with h | ⟨o,its,n,hk,hc,hs,hz,r⟩
 ·obtain ⟨z,its,r,p⟩ := h.ok I.hok
  exact ⟨its,r,p,z⟩
 ·refine ⟨its.toList,r,⟨o,I.kIn a o hk,hc,n,by simpa using hs⟩,?_⟩
  have e := r.length
  simp only [Array.length_toList] at e
  omega
theorem Ac.list_inj (I : Ac X pins σ H s) (h : Am X.K H a xs) (h' : Am X.K H a ys) : xs = ys := by
 obtain ⟨its,r,⟨o,n,e,_,_,d⟩,_⟩ := I.list h
 obtain ⟨its',r',⟨o',n',e',_,_,d'⟩,_⟩ := I.list h'
 rw [e] at e'; cases e'
 rw [d] at d'
 injection d' with d1 _
 have : its = its' := by simpa using congrArg Array.toList d1
 subst this
 exact r.inj r'
theorem Ac.tuple_inj (I : Ac X pins σ H s) (h : Af X.K H a xs) (h' : Af X.K H a ys) : xs = ys := by
 obtain ⟨its,r,⟨o,e,_,n,d⟩,_⟩ := I.tuple h
 obtain ⟨its',r',⟨o',e',_,n',d'⟩,_⟩ := I.tuple h'
 rw [e] at e'; cases e'
 rw [d] at d'
 injection d' with d1 _
 have : its = its' := by simpa using congrArg Array.toList d1
 subst this
 exact r.inj r'
end
abbrev Cx.wish (X : Cx) (E : Value -> Shared -> Prop) : Cx := { X with xe := E }
abbrev Cx.nox (X : Cx) : Cx := X.wish fun _ _ => False
theorem Cx.Ok.wish {X : Cx} (ok : X.Ok) (E : Value -> Shared -> Prop) : (X.wish E).Ok :=
 ⟨ok.mod,ok.kind,ok.glob,ok.blt,ok.above,ok.inj,ok.has,ok.cab,ok.hd,ok.frames,ok.stk,ok.exf,ok.bs,ok.bsz,ok.noex,ok.exfs,ok.funs,ok.frf⟩
theorem Cx.Ok.unwish {X : Cx} {E : Value -> Shared -> Prop} (ok : (X.wish E).Ok) : X.Ok :=
 ⟨ok.mod,ok.kind,ok.glob,ok.blt,ok.above,ok.inj,ok.has,ok.cab,ok.hd,ok.frames,ok.stk,ok.exf,ok.bs,ok.bsz,ok.noex,ok.exfs,ok.funs,ok.frf⟩
section
variable {X : Cx} {pins : List (Addr × Obj)} {σ : St} {H : Hp} {s : Shared} {E : Value -> Shared -> Prop}
theorem Ac.wish (I : Ac X pins σ H s) (E : Value -> Shared -> Prop) : Ac (X.wish E) pins σ H s := ⟨I.ok.wish E,I.os,I.bare,I.base,I.loc,I.cell,I.free,I.freeC,I.pin,I.hok,I.len⟩
theorem Ac.unwish (I : Ac (X.wish E) pins σ H s) : Ac X pins σ H s := ⟨I.ok.unwish,I.os,I.bare,I.base,I.loc,I.cell,I.free,I.freeC,I.pin,I.hok,I.len⟩
theorem SP.unwish {D : CS} {f : Flow} {s' : Shared} (h : SP (X.wish E) pins D f s') : SP X pins D f s' := by
 cases f with
 | next => obtain ⟨σ',H',I,q⟩ := h; exact ⟨σ',H',I.unwish,q⟩
 | brk => obtain ⟨σ',H',I,q⟩ := h; exact ⟨σ',H',I.unwish,q⟩
 | cont => obtain ⟨σ',H',I,q⟩ := h; exact ⟨σ',H',I.unwish,q⟩
 | ret u => obtain ⟨v,σ',H',I,r,q⟩ := h; exact ⟨v,σ',H',I.unwish,r,q⟩
theorem PSs.nox {st : List Stmt} {t : TS} (h : PSs X.nox st t) : PSs X st t := fun pins s σ H D I hw =>
 wpAny_mono (h pins s σ H D (I.wish _) hw) (fun _ _ q => q.unwish) fun _ _ z => False.elim z
end
section
variable {X : Cx} {st : Stmt} {rest : List Stmt} {t u : TS} {e : Expr} {te : TE} {pos : Pos}
def Ll : TS := fun D σ H => D.nx σ H
def Lm (t u : TS) : TS := fun D σ H => t { D with nx := u D } σ H
theorem A5 : PSs X [] Ll := fun _ _ σ H _ I h => wpAny_execs_nil ⟨σ,H,I,h⟩
theorem Aj (h1 : PS X st t) (h2 : PSs X rest u) : PSs X (st :: rest) (Lm t u) := by
 intro pins s σ H D I h
 refine wpAny_execs_cons (Ar (h1 pins s σ H { D with nx := u D } I h) fun f s1 q => ?_)
 cases f with
 | next =>
  obtain ⟨σ',H',I',q⟩ := q
  exact h2 pins s1 σ' H' D I' q
 | ret v => exact q
 | brk => exact q
 | cont => exact q
theorem Ao (h1 : PS X st t) : PSs X [st] t := by
 intro pins s σ H D I h
 refine wpAny_execs_cons (Ar (h1 pins s σ H D I h) fun f s1 q => ?_)
 cases f with
 | next => exact wpAny_execs_nil q
 | ret v => exact q
 | brk => exact q
 | cont => exact q
theorem Ac.quiet {pins : List (Addr × Obj)} {σ : St} {H : Hp} {s : Shared} (I : Ac X pins σ H s) : interactive X.env = false := by simp [interactive,I.ok.kind]
def Ln (te : TE) : TS := fun D σ H => te σ H fun _ H1 => D.nx σ H1
theorem Br (he : PE X e te) (hs : swapsWith e none pos.line X.env = pure false := by rfl) : PS X (.Expr e pos) (Ln te) := by
 intro pins s σ H D I h
 exact wpAny_Expr_any (Ar (he pins s σ H _ I h) fun v s1 ⟨x,H1,I1,r1,q1⟩ => ⟨σ,H1,I1,q1⟩) I.quiet hs
def Lo (te : TE) : TS := fun D σ H => te σ H D.rt
theorem Au (he : PE X e te) : PS X (.Return (some e) pos) (Lo te) := by
 intro pins s σ H D I h
 exact wpAny_Return_some (Ar (he pins s σ H _ I h) fun v s1 ⟨x,H1,I1,r1,q1⟩ => ⟨x,σ,H1,I1,r1,q1⟩)
end
abbrev TG := V -> St -> Hp -> (St -> Hp -> Prop) -> Prop
abbrev C7 := List V -> St -> Hp -> (St -> Hp -> Prop) -> Prop
def PG (X : Cx) (target : Expr) (t : TG) : Prop :=
 ∀ (pins : List (Addr × Obj)) (s : Shared) (σ : St) (H : Hp) (v : V) (u : Value) (Q : St -> Hp -> Prop),Ac X pins σ H s -> Aw v u -> t v σ H Q ->
  wpAny (model X.prog X.w) X.A (assign target X.env u) (fun _ s' => ∃ σ' H',Ac X pins σ' H' s' /\ Q σ' H') X.xe s
def Ex (X : Cx) (ts : List Expr) (t : C7) : Prop :=
 ∀ (pins : List (Addr × Obj)) (s : Shared) (σ : St) (H : Hp) (vs : List V) (us : List Value) (Q : St -> Hp -> Prop),Ac X pins σ H s -> At vs us -> t vs σ H Q ->
  wpAny (model X.prog X.w) X.A (assignInOrder ((assignEach ts X.env).map (·.2)) us) (fun _ s' => ∃ σ' H',Ac X pins σ' H' s' /\ Q σ' H') X.xe s
abbrev GL := V -> V -> V -> Hp -> (Hp -> Prop) -> Prop
def IA (X : Cx) (t : GL) : Prop :=
 ∀ (pins : List (Addr × Obj)) (s : Shared) (σ : St) (H : Hp) (o i v : V) (ov iv u : Value) (Q : Hp -> Prop),Ac X pins σ H s -> Aw o ov -> Aw i iv -> Aw v u -> t o i v H Q ->
  wpAny (model X.prog X.w) X.A (setItem ov iv u) (fun _ s' => ∃ H',Ac X pins σ H' s' /\ Q H') X.xe s
section
variable {X : Cx} {pos : Pos}
def E4 (i : Nat) : TG := fun v σ H Q => Q (σ.set i (some v)) H
theorem Lp {i : Nat} {x : Str} (hN : X.N.Nodup) (hi : X.N[i]? = some x) (hx : Dq X.env.scope x) (hf : X.fn x = true \/ X.env.scope.names.lookup x = some .local := by first | exact .inl rfl | exact .inr rfl | assumption) : PG X (.Name x pos) (E4 i) := by
 intro pins s σ H v u Q I r h
 exact wpAny_assign_Name (Ew I hN hi hx r (fun s' I' => ⟨_,H,I',h⟩) hf)
def Lr : C7 := fun vs σ H Q => vs = [] /\ Q σ H
def Ls (t : TG) (u : C7) : C7 := fun vs σ H Q => ∃ v r,vs = v :: r /\ t v σ H fun σ' H' => u r σ' H' Q
theorem AH : Ex X [] Lr := by
 intro pins s σ H vs us Q I r h
 obtain ⟨e,h⟩ := h
 subst e
 cases r
 exact assignInOrder_nil ⟨σ,H,I,h⟩
theorem Ah {e : Expr} {es : List Expr} {t : TG} {u : C7} (h1 : PG X e t) (h2 : Ex X es u)
  (hs : (assignEach (e :: es) X.env).map (·.2) = assign e X.env :: (assignEach es X.env).map (·.2) := by rfl) : Ex X (e :: es) (Ls t u) := by
 intro pins s σ H vs us Q I r h
 obtain ⟨v,vr,e1,h⟩ := h
 subst e1
 cases r with
 | cons r rr =>
  rw [hs]
  refine assignInOrder_cons (Ar (h1 pins s σ H _ _ _ I r h) fun _ s1 ⟨σ1,H1,I1,q1⟩ => ?_)
  exact h2 pins s1 σ1 H1 _ _ Q I1 rr q1
def IB (K : PySem.W.Frag) (n : Nat) (t : C7) : TG := fun v σ H Q => ∃ a xs,v = .ref a /\ Af K H a xs /\ xs.length = n /\ t xs σ H Q
theorem Lu {es : List Expr} {k : Nat} {t : C7} {n : Nat} (hc : X.calm = true) (h : Ex X es t)
  (hn : (assignEach es X.env).length = n := by rfl) (hst : (assignEach es X.env).findIdx? (·.1) = none := by rfl) : PG X (.Tuple es k pos) (IB X.K n t) := by
 intro pins s σ H v u Q I r hw
 obtain ⟨a,xs,e1,hq,hl,hw⟩ := hw
 subst e1
 cases r
 obtain ⟨its,rv,ht,hz⟩ := I.tuple hq
 refine assign_Tuple_tuple (I.ok.hd hc) ht (by simp [hn,<- hl,rv.length]) hst fun h' hx => ?_
 have I1 : Ac X pins σ H { s with heap := h' } := I.kept (t' := s.toks) fun b o e => hx b o (Nat.ne_of_lt (Heap.lt_size e)) e
 exact h pins _ σ H xs _ Q I1 (by simpa using rv) hw
def Lv (to ti : TE) (t : GL) : TG := fun v σ H Q => to σ H fun o H1 => ti σ H1 fun i H2 => t o i v H2 fun H3 => Q σ H3
theorem IC {o i : Expr} {to ti : TE} {t : GL} (ho : PE X o to) (hi : PE X i ti) (hs : IA X t)
  (ha : ∀ v, assign (.Subscript o i pos) X.env v = (do
   let ov <- holding [v] (eval o X.env)
   let iv <- holding [v,ov] (eval i X.env)
   standAt pos
   holding [v,ov,iv] (setItem ov iv v)
   release [v,ov,iv] []) := by intro _; rfl) : PG X (.Subscript o i pos) (Lv to ti t) := by
 intro pins s σ H v u Q I r h
 rw [ha]
 refine wpAny_bind (wpAny_holding (Ar (ho pins s σ H _ I h) fun ov s1 ⟨x,H1,I1,r1,q1⟩ => ?_))
 refine wpAny_bind (wpAny_holding (Ar (hi pins s1 σ H1 _ I1 q1) fun iv s2 ⟨y,H2,I2,r2,q2⟩ => ?_))
 refine wpAny_bind (wpAny_standAt (wpAny_bind (wpAny_holding (Ar (hs pins s2 σ H2 x y v ov iv u _ I2 r1 r2 r q2) fun _ s3 ⟨H3,I3,q3⟩ => ?_))))
 exact wpAny_release ⟨σ,H3,I3,q3⟩
def ID (te : TE) (g : TG) : TS := fun D σ H => te σ H fun x H1 => g x σ H1 D.nx
theorem Bb {tg e : Expr} {te : TE} {g : TG} (he : PE X e te) (hg : PG X tg g) (hs : swapsWithSole [tg] e pos.line X.env = pure false := by rfl) (hw : swappedStores [tg] e X.env = pure none := by rfl)
  (h1 : (assignEach [tg] X.env).map (·.2) = [assign tg X.env] := by rfl) : PS X (.Assign [tg] e pos) (ID te g) := by
 intro pins s σ H D I h
 refine wpAny_Assign_stores (Ar (he pins s σ H _ I h) fun v s1 ⟨x,H1,I1,r1,q1⟩ => ?_) hs hw
 rw [h1]
 exact Ar (hg pins s1 σ H1 x v _ I1 r1 q1) fun _ s2 q => q
theorem AB {i : Nat} {x : Str} {e : Expr} {te : TE} {pos' : Pos} (hN : X.N.Nodup) (hi : X.N[i]? = some x) (hx : Dq X.env.scope x) (he : PE X e te) (hs : swapsWith e (some (.Name x pos')) pos.line X.env = pure false := by rfl) (hf : X.fn x = true \/ X.env.scope.names.lookup x = some .local := by first | exact .inl rfl | exact .inr rfl | assumption) :
  PS X (.Assign [.Name x pos'] e pos) (ID te (E4 i)) := by
 intro pins s σ H D I h
 refine wpAny_Assign_Name (Ar (he pins s σ H _ I h) fun v s1 ⟨y,H1,I1,r1,q1⟩ => ?_) hs
 exact Ew I1 hN hi hx r1 (fun s2 I2 => ⟨_,H1,I2,q1⟩) hf
def Lw (i j : Nat) (ta : TA) : TS := fun D σ H => ta σ H fun vs H1 => ∃ v w,vs = [v,w] /\ D.nx ((σ.set i (some v)).set j (some w)) H1
theorem IE {i j : Nat} {x y : Str} {a b : Expr} {ta : TA} {px py pt : Pos} {kt k2 pt2} (hc : X.calm = true) (hN : X.N.Nodup) (hi : X.N[i]? = some x) (hj : X.N[j]? = some y) (hij : i ≠ j)
  (hx : X.env.scope.names.lookup x = some .local) (hy : X.env.scope.names.lookup y = some .local) (ha : PA X [a,b] ta)
  (hw : swappedStores [.Tuple [.Name x px,.Name y py] kt pt] (.Tuple [a,b] k2 pt2) X.env = pure (some [x,y]))
  (hs : swapsWithSole [.Tuple [.Name x px,.Name y py] kt pt] (.Tuple [a,b] k2 pt2) pos.line X.env = pure false := by rfl) :
  PS X (.Assign [.Tuple [.Name x px,.Name y py] kt pt] (.Tuple [a,b] k2 pt2) pos) (Lw i j ta) := by
 intro pins s σ H D I h
 rw [exec_Assign_arm]
 refine wpAny_bind (wpAny_standAt ?_)
 rw [hs]
 refine wpAny_bind (wpAny_pure ?_)
 rw [if_neg (by decide)]
 refine wpAny_bind (Tuple_ (Ar (ha _ pins s σ H _ I h) fun us s1 ⟨vs,H1,I1,r1,q1⟩ => ?_))
 obtain ⟨v,w,e1,q1⟩ := q1
 subst e1
 obtain ⟨u1,u2,rfl,rv,rw'⟩ : ∃ u1 u2,us = [u1,u2] /\ Aw v u1 /\ Aw w u2 := by
  cases r1 with
  | cons p q =>
   cases q with
   | cons p' q' =>
    cases q'
    exact ⟨_,_,rfl,p,p'⟩
 refine wpAny_newObj_type ?_ (by show 2 <= sizeLine; decide)
 have I2 : Ac X pins σ H1 { s1 with heap := s1.heap.push { cls := .type "tuple",data := .seq [u1,u2].toArray } } := I1.kept (t' := s1.toks) fun b o e => Heap.get?_push_of_some _ e
 rw [hw]
 refine wpAny_bind (wpAny_pure ?_)
 show wpAny (model X.prog X.w) X.A (do rule "assign.swapped-stores"; let items <- unpackItems (.ref s1.heap.objs.size) 2 none; assignInOrder [fun v => bindName X.env y v,fun v => bindName X.env x v] items.reverse; pure Flow.next) _ _ _
 refine wpAny_bind (wpAny_rule (wpAny_bind (unpackItems_tuple (items := #[u1,u2]) (I.ok.hd hc) (IsTup.new s1.heap _) fun h' hx' => ?_)))
 have I3 := I2.kept (h' := h') (t' := s1.toks) fun b o e => hx' b o (Nat.ne_of_lt (Heap.lt_size e)) e
 show wpAny _ _ (assignInOrder [fun v => bindName X.env y v,fun v => bindName X.env x v] [u2,u1] >>= fun _ => pure Flow.next) _ _ _
 refine wpAny_bind (assignInOrder_cons (wpAny_bindName (Ew I3 hN hj (.inl hy) rw' (fun s2 I4 => ?_) (.inr hy))))
 refine assignInOrder_cons (wpAny_bindName (Ew I4 hN hi (.inl hx) rv (fun s3 I5 => assignInOrder_nil (wpAny_pure ?_)) (.inr hx)))
 rw [List.set_comm _ _ (Ne.symm hij)] at I5
 exact ⟨_,H1,I5,q1⟩
end
section
variable {X : Cx} {pos : Pos}
end
structure It where
 go : Nat -> Hp -> Prop
 yld : Nat -> Hp -> V -> Hp -> Prop
 stop : Nat -> Hp -> Prop
def Bs (X : Cx) (pins : List (Addr × Obj)) (H : Hp) (b : Addr) : Prop :=
 H b = none /\ b ≠ X.env.locals /\ b ∉ X.fs /\ (b ∈ X.ex \/ X.s₀.heap.objs.size <= b) /\ (∀ x c,X.env.cells.lookup x = some c -> c ≠ b) /\ ∀ p ∈ X.pn ++ pins,p.1 ≠ b
theorem Ac.fpOk {X : Cx} {pins : List (Addr × Obj)} {σ : St} {H H' : Hp} {s : Shared} {b : Addr} (I : Ac X pins σ H s) (hb : s.heap.objs.size <= b) (hn : H' b = none) : Bs X pins H' b := by
 refine ⟨hn,Nat.ne_of_gt (Nat.lt_of_lt_of_le I.lt hb),I.nofs hb,.inr (Nat.le_trans I.sz hb),fun x c e z => ?_,fun p hp z => ?_⟩
 ·obtain ⟨v,q⟩ := I.cell x c e
  exact absurd (Nat.lt_of_lt_of_le q.lt (by rw [z]; exact hb)) (Nat.lt_irrefl _)
 ·exact absurd (Nat.lt_of_lt_of_le (Heap.lt_size (I.pin p hp).1) (by rw [z]; exact hb)) (Nat.lt_irrefl _)
structure CJ (P : Program) (w : World) (K : PySem.W.Frag) (tg : Expr) (J : It) (fp : List Addr) (it : Addr) (tn : Nat -> Heap -> Prop) : Prop where
 mem : it ∈ fp
 obj : ∀ i h,tn i h -> ∀ b ∈ fp,∃ o,h.get? b = some o /\ ∀ v,o.data ≠ .cell v
 keep : ∀ i h h',tn i h -> (∀ b ∈ fp,∀ o,h.get? b = some o -> h'.get? b = some o) -> tn i h'
 item : ∀ (X : Cx),X.prog = P -> X.w = w -> X.K = K -> X.calm = true -> ∀ (i : Nat) (pins : List (Addr × Obj)) (s : Shared) (σ : St) (H : Hp) (E : Value -> Shared -> Prop),Ac X pins σ H s -> (∀ b ∈ fp,Bs X pins H b) -> tn i s.heap -> J.go i H ->
  wpAny (model P w) X.A (pyNext (.ref it)) (fun r s1 => ∃ u,r = some u /\
   wpAny (model P w) X.A (letOwnedTupleGo tg (.ref it) u) (fun _ s2 => ∃ x H',Ac X pins σ H' s2 /\ Aw x u /\ J.yld i H x H' /\ tn (i + 1) s2.heap /\ ∀ b ∈ fp,H' b = none) E s1) E s
 done : ∀ (X : Cx),X.prog = P -> X.w = w -> X.K = K -> X.calm = true -> ∀ (i : Nat) (pins : List (Addr × Obj)) (s : Shared) (σ : St) (H : Hp) (E : Value -> Shared -> Prop),Ac X pins σ H s -> (∀ b ∈ fp,Bs X pins H b) -> tn i s.heap -> J.stop i H ->
  wpAny (model P w) X.A (pyNext (.ref it)) (fun r s1 => r = none /\ Ac X pins σ H s1) E s
 self : ∀ (A : Around) (i : Nat) (s : Shared) (Q : Value -> Shared -> Prop) (E : Value -> Shared -> Prop),tn i s.heap -> Q (.ref it) s -> wpAny (model P w) A (pyIter (.ref it)) Q E s
abbrev TI := St -> Hp -> (It -> Hp -> Prop) -> Prop
def IF (X : Cx) (pins : List (Addr × Obj)) (σ : St) (tg : Expr) (R : It -> Hp -> Prop) (itv : Value) (s2 : Shared) : Prop :=
 ∃ (it : Addr) (fp : List Addr) (tn : Nat -> Heap -> Prop) (J : It) (H' : Hp),itv = .ref it /\ Ac X pins σ H' s2 /\ CJ X.prog X.w X.K tg J fp it tn /\ tn 0 s2.heap /\ (∀ b ∈ fp,Bs X pins H' b) /\ R J H'
def PI (X : Cx) (tg iter : Expr) (wi : TI) : Prop :=
 ∀ (pins : List (Addr × Obj)) (s : Shared) (σ : St) (H : Hp) (R : It -> Hp -> Prop),Ac X pins σ H s -> wi σ H R ->
  wpAny (model X.prog X.w) X.A (eval iter X.env) (fun v s1 => wpAny (model X.prog X.w) X.A (pyIter v) (IF X pins σ tg R) X.xe s1) X.xe s
theorem E5 {M : Model} {A : Around} {E : Value -> Shared -> Prop} {s : Shared} {tg : Expr} {it : Addr} {u : Value} {o : Obj} {n : String} {vs : Array Value} {Q : Unit -> Shared -> Prop} (ho : s.heap.get? it = some o) (hc : o.cls = .type n) (hd : o.data = .fields vs)
    (hn : ["enumerate","zip","dict_itemiterator","dict_reverseitemiterator","odict_iterator","itertools.zip_longest","itertools.pairwise"].contains n = false) (hQ : Q () s) : wpAny M A (letOwnedTupleGo tg (.ref it) u) Q E s := by
  unfold letOwnedTupleGo
  cases tg <;> first
    | exact wpAny_pure hQ
    | (cases u <;> first
        | exact wpAny_pure hQ
        | (refine wpAny_bind (wpAny_load ho ?_)
           rw [hc,hd]
           show wpAny M A (if (["enumerate","zip","dict_itemiterator","dict_reverseitemiterator","odict_iterator","itertools.zip_longest","itertools.pairwise"].contains n && vs[0]? == some (rawInt _)) = true then _ else _) Q E s
           rw [if_neg (by intro h; rw [hn,Bool.false_and] at h; cases h)]
           exact wpAny_pure hQ))
def DO (K : PySem.W.Frag) (a : Addr) : It :=
 ⟨fun i H => ∃ xs x,Am K H a xs /\ xs[i]? = some x,fun i H x H' => H' = H /\ ∀ xs,Am K H a xs -> xs[i]? = some x,fun i H => ∃ xs,Am K H a xs /\ xs.length <= i⟩
def Ds (K : PySem.W.Frag) (a : Addr) : It :=
 ⟨fun i H => ∃ xs x,Af K H a xs /\ xs[i]? = some x,fun i H x H' => H' = H /\ ∀ xs,Af K H a xs -> xs[i]? = some x,fun i H => ∃ xs,Af K H a xs /\ xs.length <= i⟩
def CK (lo : Int) (n : Nat) : It := ⟨fun i _ => i < n,fun i H x H' => H' = H /\ x = .int (lo + i),fun i _ => n <= i⟩
theorem Lx {w : World} {K : PySem.W.Frag} (a it : Addr) : CJ P w K tg (DO K a) [it] it (fun i h => h.IsListIter it a i) where
 mem := by simp
 obj := fun i h st b hb => by
  have e : b = it := by simpa using hb
  subst e
  obtain ⟨o,e,c,d⟩ := st
  exact ⟨o,e,fun v z => by rw [d] at z; cases z⟩
 keep := fun i h h' st k => st.at fun o e => k it (by simp) o e
 item := by
  intro X hP hw hK hc i pins s σ H E I hf st hg
  subst hP hw hK
  obtain ⟨xs,x,hq,hx⟩ := hg
  obtain ⟨its,rv,p,hz⟩ := I.list hq
  obtain ⟨u,hu,ru⟩ := rv.get hx
  obtain ⟨f0,f1,f2,f3,f4,f5⟩ := hf it (by simp)
  refine wpAny_pyNext_list_item st p.isList (x := u) (by simpa using hu) fun h' st' sb => ?_
  have I1 : Ac X pins σ H { s with heap := h' } := I.turned (t' := s.toks) (fun b o hb e => (sb.2 b hb).trans e) f0 f1 f3 f4 f5
  obtain ⟨o,e,c,d⟩ := id st'
  exact ⟨u,rfl,E5 (s := { s with heap := h' }) e c d (by decide) ⟨x,H,I1,ru,⟨rfl,fun ys hy => by rw [I.list_inj hy hq]; exact hx⟩,st',fun b hb => (hf b hb).1⟩⟩
 done := by
  intro X hP hw hK hc i pins s σ H E I hf st hg
  subst hP hw hK
  obtain ⟨xs,hq,hx⟩ := hg
  obtain ⟨its,rv,p,hz⟩ := I.list hq
  obtain ⟨f0,f1,f2,f3,f4,f5⟩ := hf it (by simp)
  have hl := rv.length
  exact wpAny_pyNext_list_end (I.ok.hd hc) st p.isList (by simp; omega) fun h' eb => ⟨rfl,I.turned (t' := s.toks) (fun b o hb e => eb b o hb e) f0 f1 f3 f4 f5⟩
 self := fun _ _ _ _ _ st h => wpAny_pyIter_listiter st h
theorem Ly {w : World} {K : PySem.W.Frag} (a it : Addr) : CJ P w K tg (Ds K a) [it] it (fun i h => h.IsTupleIter it a i) where
 mem := by simp
 obj := fun i h st b hb => by
  have e : b = it := by simpa using hb
  subst e
  obtain ⟨o,e,c,d⟩ := st
  exact ⟨o,e,fun v z => by rw [d] at z; cases z⟩
 keep := fun i h h' st k => st.at fun o e => k it (by simp) o e
 item := by
  intro X hP hw hK hc i pins s σ H E I hf st hg
  subst hP hw hK
  obtain ⟨xs,x,hq,hx⟩ := hg
  obtain ⟨its,rv,p,hz⟩ := I.tuple hq
  obtain ⟨u,hu,ru⟩ := rv.get hx
  obtain ⟨f0,f1,f2,f3,f4,f5⟩ := hf it (by simp)
  refine wpAny_pyNext_tuple_item st (show s.heap.IsTuple a its.toArray from p) (x := u) (by simpa using hu) fun h' st' sb => ?_
  have I1 : Ac X pins σ H { s with heap := h' } := I.turned (t' := s.toks) (fun b o hb e => (sb.2 b hb).trans e) f0 f1 f3 f4 f5
  obtain ⟨o,e,c,d⟩ := id st'
  exact ⟨u,rfl,E5 (s := { s with heap := h' }) e c d (by decide) ⟨x,H,I1,ru,⟨rfl,fun ys hy => by rw [I.tuple_inj hy hq]; exact hx⟩,st',fun b hb => (hf b hb).1⟩⟩
 done := by
  intro X hP hw hK hc i pins s σ H E I hf st hg
  subst hP hw hK
  obtain ⟨xs,hq,hx⟩ := hg
  obtain ⟨its,rv,p,hz⟩ := I.tuple hq
  obtain ⟨f0,f1,f2,f3,f4,f5⟩ := hf it (by simp)
  have hl := rv.length
  exact wpAny_pyNext_tuple_end (I.ok.hd hc) st (show s.heap.IsTuple a its.toArray from p) (by simp; omega) fun h' eb => ⟨rfl,I.turned (t' := s.toks) (fun b o hb e => eb b o hb e) f0 f1 f3 f4 f5⟩
 self := fun _ _ _ _ _ st h => wpAny_pyIter_tupleiter st h
theorem Lz {w : World} {K : PySem.W.Frag} (it : Addr) (lo : Int) (n : Nat) : CJ P w K tg (CK lo n) [it] it (fun i h => IsRangeIter h it (lo + (i : Nat) * 1) ((n : Int) - (i : Nat)) 1) where
 mem := by simp
 obj := fun i h st b hb => by
  have e : b = it := by simpa using hb
  subst e
  exact ⟨_,st,fun v z => by
   have z' : Data.fields _ = Data.cell v := z
   cases z'⟩
 keep := fun i h h' st k => k it (by simp) _ st
 item := by
  intro X hP hw hK hc i pins s σ H E I hf st hg
  subst hP hw hK
  obtain ⟨f0,f1,f2,f3,f4,f5⟩ := hf it (by simp)
  have W := Walks.range (prog := X.prog) (w := X.w) (I.ok.hd hc) it lo 1 n
  refine W.item i s _ _ hg st fun v h' tk hv st' kk => ?_
  obtain ⟨t,rfl⟩ := hv
  have I1 : Ac X pins σ H { s with heap := h',toks := tk } := I.turned (fun b o hb e => kk b o (by simpa using hb) e) f0 f1 f3 f4 f5
  refine ⟨_,rfl,E5 (s := { s with heap := h',toks := tk }) (n := "range_iterator") st' rfl rfl (by decide) ⟨.int (lo + i),H,I1,⟨t,?_⟩,⟨rfl,rfl⟩,st',fun b hb => (hf b hb).1⟩⟩
  rw [Int.mul_one]
 done := by
  intro X hP hw hK hc i pins s σ H E I hf st hg
  subst hP hw hK
  obtain ⟨f0,f1,f2,f3,f4,f5⟩ := hf it (by simp)
  exact wpAny_pyNext_range_end (I.ok.hd hc) st (by have : n <= i := hg; omega) fun h' eb => ⟨rfl,I.turned (t' := s.toks) (fun b o hb e => eb b o hb e) f0 f1 f3 f4 f5⟩
 self := fun _ _ _ _ _ st h => wpAny_pyIter_rangeiter st h
end L2
namespace L2
open PySem PySem.Spec PyProof.Rows
variable {tl : TE} {pins : List (Addr × Obj)} {σ : St} {H : Hp} {s : Shared} {a : Addr} {fp : List Addr} {h : Heap} {xs : List V} {g : TG} {tb : TS} {D : CS}
section
variable {X : Cx} {tg : Expr}
def IG (K : PySem.W.Frag) (tl : TE) : TI := fun σ H R => tl σ H fun x H1 => ∃ a,x = .ref a /\ (∃ xs,Am K H1 a xs) /\ R (DO K a) H1
def IH (K : PySem.W.Frag) (tl : TE) : TI := fun σ H R => tl σ H fun x H1 => ∃ a,x = .ref a /\ (∃ xs,Af K H1 a xs) /\ R (Ds K a) H1
theorem LE {l : Expr} (hl : PE X l tl) : PI X tg l (IG X.K tl) := by
 intro pins s σ H R I h
 refine Ar (hl pins s σ H _ I h) fun v s1 ⟨x,H1,I1,r1,q1⟩ => ?_
 obtain ⟨a,e,⟨xs,hq⟩,q⟩ := q1
 subst e
 cases r1
 obtain ⟨its,rv,p,hz⟩ := I1.list hq
 refine wpAny_pyIter_list p.isList ?_
 refine ⟨s1.heap.objs.size,[s1.heap.objs.size],_,_,H1,rfl,I1.kept (t' := s1.toks) fun b o e => Heap.get?_push_of_some _ e,Lx a _,⟨_,Heap.get?_push_size _ rfl,rfl,rfl⟩,fun b hb => ?_,q⟩
 have e : b = s1.heap.objs.size := by simpa using hb
 subst e
 exact I1.fpOk (Nat.le_refl _) (I1.hok.fresh (Nat.le_refl _))
theorem LF {l : Expr} (hl : PE X l tl) : PI X tg l (IH X.K tl) := by
 intro pins s σ H R I h
 refine Ar (hl pins s σ H _ I h) fun v s1 ⟨x,H1,I1,r1,q1⟩ => ?_
 obtain ⟨a,e,⟨xs,hq⟩,q⟩ := q1
 subst e
 cases r1
 obtain ⟨its,rv,p,hz⟩ := I1.tuple hq
 refine wpAny_pyIter_tuple (show s1.heap.IsTuple a its.toArray from p) ?_
 refine ⟨s1.heap.objs.size,[s1.heap.objs.size],_,_,H1,rfl,I1.kept (t' := s1.toks) fun b o e => Heap.get?_push_of_some _ e,Ly a _,⟨_,Heap.get?_push_size _ rfl,rfl,rfl⟩,fun b hb => ?_,q⟩
 have e : b = s1.heap.objs.size := by simpa using hb
 subst e
 exact I1.fpOk (Nat.le_refl _) (I1.hok.fresh (Nat.le_refl _))
theorem II {R : It -> Hp -> Prop} {E : Value -> Shared -> Prop} {lo hi : Int} {t u v : Tok} {tk : Nat} (I : Ac X pins σ H s) (h1 : -(2 ^ 62) <= lo) (h2 : lo < 2 ^ 62) (h3 : -(2 ^ 62) <= hi) (h4 : hi < 2 ^ 62)
  (q : R (CK lo (hi - lo).toNat) H) : wpAny (model X.prog X.w) X.A (pyIter (.ref s.heap.objs.size)) (IF X pins σ tg R) E { s with heap := s.heap.push { cls := .type "range",data := .fields #[.int lo t,.int hi u,.int 1 v] },toks := tk } := by
 refine wpAny_pyIter_range (IsRange.new ..) (small_one h1 h2 h3 h4) ?_
 have I1 : Ac X pins σ H { s with heap := s.heap.push { cls := .type "range",data := .fields #[.int lo t,.int hi u,.int 1 v] },toks := tk } := I.kept fun b o e => Heap.get?_push_of_some _ e
 refine ⟨(s.heap.push { cls := .type "range",data := .fields #[.int lo t,.int hi u,.int 1 v] }).objs.size,[(s.heap.push { cls := .type "range",data := .fields #[.int lo t,.int hi u,.int 1 v] }).objs.size],_,_,H,rfl,
  I1.kept (t' := tk) fun b o e => Heap.get?_push_of_some _ e,Lz _ lo (hi - lo).toNat,?_,fun b hb => ?_,q⟩
 ·have e1 : lo + ((0 : Nat) : Int) * 1 = lo := by simp
  have e2 : (((hi - lo).toNat : Nat) : Int) - ((0 : Nat) : Int) = Builtin.Range.rangeSize lo hi 1 := by rw [rangeSize_one]; split <;> omega
  show IsRangeIter _ _ (lo + ((0 : Nat) : Int) * 1) ((((hi - lo).toNat : Nat) : Int) - ((0 : Nat) : Int)) 1
  rw [e1,e2]
  exact Heap.get?_push_size _ rfl
 ·have e : b = (s.heap.push { cls := .type "range",data := .fields #[.int lo t,.int hi u,.int 1 v] }).objs.size := by simpa using hb
  subst e
  exact I1.fpOk (Nat.le_refl _) (I1.hok.fresh (Nat.le_refl _))
def LG (ta : TA) : TI := fun σ H R => ta σ H fun vs H1 => ∃ j : Int,vs = [.int j] /\ -(2 ^ 62) <= j /\ j < 2 ^ 62 /\ R (CK 0 j.toNat) H1
def LH (ta : TA) : TI := fun σ H R => ta σ H fun vs H1 => ∃ i j : Int,vs = [.int i,.int j] /\ (-(2 ^ 62) <= i /\ i < 2 ^ 62 /\ -(2 ^ 62) <= j /\ j < 2 ^ 62) /\ R (CK i (j - i).toNat) H1
theorem C8 {a : Expr} {ta : TA} {p pos : Pos} (hg : Gl X "range") (hm : X.mg "range" = none) (ha : PA X [a] ta) (hs : starEach [a] X.env = [(false,eval a X.env)] := by rfl) : PI X tg (.Call (.Name "range" p) [a] [] pos) (LG ta) := by
 intro pins s σ H R I h
 refine Call_ (Cq I hg hm boot_range (PyProof.Rows.callWith_type1 (Ar (ha pos pins s σ H _ I h) fun us s1 ⟨vs,H1,I1,r1,q1⟩ => ?_) hs rfl))
 obtain ⟨j,e,q1,q2,q⟩ := q1
 subst e
 cases r1 with
 | cons r rr =>
  cases rr
  obtain ⟨t,rfl⟩ := r
  exact call_range_1 (II I1 (by omega) (by omega) q1 q2 (by simpa using q))
theorem LJ {a b : Expr} {ta : TA} {p pos : Pos} (hg : Gl X "range") (hm : X.mg "range" = none) (ha : PA X [a,b] ta) (hs : starEach [a,b] X.env = [(false,eval a X.env),(false,eval b X.env)] := by rfl) (hs2 : starEach [b] X.env = [(false,eval b X.env)] := by rfl) :
  PI X tg (.Call (.Name "range" p) [a,b] [] pos) (LH ta) := by
 intro pins s σ H R I h
 refine Call_ (Cq I hg hm boot_range (PyProof.Rows.callWith_type1 (Ar (ha pos pins s σ H _ I h) fun us s1 ⟨vs,H1,I1,r1,q1⟩ => ?_) (by rw [hs,hs2]) (by rw [hs2]; rfl)))
 obtain ⟨i,j,e,⟨q1,q2,q3,q4⟩,q⟩ := q1
 subst e
 cases r1 with
 | cons r rr =>
  cases rr with
  | cons r' rr =>
   cases rr
   obtain ⟨t,rfl⟩ := r
   obtain ⟨t',rfl⟩ := r'
   exact call_range_2 (II I1 q1 q2 q3 q4 q)
def LK (wi : TI) (g : TG) (tb : TS) : TS := fun D σ H => wi σ H fun J H1 => ∃ W : Nat -> Nat -> St -> Hp -> Prop,(∃ m,W 0 m σ H1) /\ ∀ i m σ H,W i m σ H ->
 (J.stop i H /\ D.nx σ H) \/ (J.go i H /\ ∃ N : St -> Hp -> Prop,(∀ σ' H',N σ' H' -> ∃ m',m' < m /\ W (i + 1) m' σ' H') /\ ∀ x H',J.yld i H x H' -> g x σ H' fun σ2 H2 => tb { D with nx := N,ct := N,bk := D.nx } σ2 H2)
def Ct (fp : List Addr) (h : Heap) : List (Addr × Obj) := fp.filterMap fun b => (h.get? b).map fun o => (b,o)
theorem DP {b : Addr} {o : Obj} (hb : b ∈ fp) (e : h.get? b = some o) : (b,o) ∈ Ct fp h := List.mem_filterMap.mpr ⟨b,hb,by rw [e]; rfl⟩
theorem GM {p : Addr × Obj} (hp : p ∈ Ct fp h) : p.1 ∈ fp /\ h.get? p.1 = some p.2 := by
 obtain ⟨b,hb,e⟩ := List.mem_filterMap.mp hp
 cases q : h.get? b with
 | none => rw [q] at e; cases e
 | some o =>
  rw [q] at e
  have e' : (b,o) = p := Option.some.inj e
  subst e'
  exact ⟨hb,q⟩
theorem Ac.pinned (I : Ac X pins σ H s) (hf : ∀ b ∈ fp,Bs X pins H b) (ho : ∀ b ∈ fp,∃ o,s.heap.get? b = some o /\ ∀ v,o.data ≠ .cell v) : Ac X (pins ++ Ct fp s.heap) σ H s :=
 I.pins_of fun p hp => (List.mem_append.mp hp).elim (fun z => I.pin p (List.mem_append_right _ z)) fun z => by
  obtain ⟨hb,e⟩ := GM z
  obtain ⟨f0,f1,f2,_⟩ := hf p.1 hb
  obtain ⟨o,e',d⟩ := ho p.1 hb
  rw [e] at e'; cases e'
  exact ⟨e,f0,f1,f2,d⟩
theorem Ac.unpinned {pl : List (Addr × Obj)} (I : Ac X (pins ++ pl) σ H s) : Ac X pins σ H s := I.pins_of fun p hp => I.pin p (List.mem_append_right _ (List.mem_append_left _ hp))
theorem BI {iter : Expr} {body : List Stmt} {wi : TI} {g : TG} {tb : TS} {pos : Pos} (hp : PassesOwn (model X.prog X.w) X.A X.env X.xe) (hc : X.calm = true) (hi : PI X tg iter wi) (hg : PG X tg g) (hb : PSs X body tb)
  (hs : ∀ x,foldedSetIterable iter X.env x = pure x := by intro _; rfl) : PS X (.For tg iter body [] pos) (LK wi g tb) := by
 intro pins s σ H D I h
 refine wpAny_For (Ar (hi pins s σ H _ I h) fun v s1 h1 => Ar h1 fun itv s2 h2 => ?_) hs
 obtain ⟨it,fp,tn,J,H2,e,I2,T,st2,f2,W,⟨m0,w0⟩,turn⟩ := h2
 subst e
 -- what stays true of the iterator's objects through the loop
 have stat : ∀ {H' : Hp},(∀ b ∈ fp,H' b = none) -> ∀ b ∈ fp,Bs X pins H' b := fun hn b hb => ⟨hn b hb,(f2 b hb).2⟩
 refine codeAny_forLoop_any (fun n s' => ∃ i σ' H',Ac X pins σ' H' s' /\ tn i s'.heap /\ (∀ b ∈ fp,H' b = none) /\ W i n σ' H') ?_ m0 ⟨0,σ,H2,I2,st2,fun b hb => (f2 b hb).1,w0⟩
 rintro n s3 ⟨i,σ3,H3,I3,st3,fr3,w3⟩
 rcases turn i n σ3 H3 w3 with ⟨stop,qn⟩ | ⟨go,N,hN,step⟩
 ·refine wpAny_passesOwn hp (Ar (T.done X rfl rfl rfl hc i pins s3 σ3 H3 X.xe I3 (stat fr3) st3 stop) fun r s4 ⟨hr,I4⟩ => ?_)
  subst hr
  exact wpAny_execs_nil ⟨σ3,H3,I4,qn⟩
 ·refine wpAny_passesOwn hp (Ar (T.item X rfl rfl rfl hc i pins s3 σ3 H3 X.xe I3 (stat fr3) st3 go) fun r s4 ⟨u,hr,h4⟩ => ?_)
  subst hr
  refine wpAny_passesOwn hp (Ar h4 fun _ s5 ⟨x,H5,I5,r5,y5,st5,fr5⟩ => ?_)
  have I5' := I5.pinned (stat fr5) (T.obj _ _ st5)
  refine wpAny_passesOwn hp (Ar (hg _ s5 σ3 H5 x u _ I5' r5 (step x H5 y5)) fun _ s6 ⟨σ6,H6,I6,q6⟩ => ?_)
  refine wpAny_passesOwn hp (Ar (hb _ s6 σ6 H6 _ I6 q6) fun f s7 q7 => ?_)
  have again : ∀ {σ7 : St} {H7 : Hp},Ac X (pins ++ Ct fp s5.heap) σ7 H7 s7 -> N σ7 H7 -> ∃ m,m < n /\ ∃ i σ' H',Ac X pins σ' H' s7 /\ tn i s7.heap /\ (∀ b ∈ fp,H' b = none) /\ W i m σ' H' := fun {σ7 H7} I7 n7 => by
   obtain ⟨m',hm,w7⟩ := hN σ7 H7 n7
   refine ⟨m',hm,i + 1,σ7,H7,I7.unpinned,T.keep _ _ _ st5 fun b hb o e => (I7.pin (b,o) (List.mem_append_right _ (List.mem_append_right _ (DP hb e)))).1,fun b hb => ?_,w7⟩
   obtain ⟨o,e,d⟩ := T.obj _ _ st5 b hb
   exact (I7.pin (b,o) (List.mem_append_right _ (List.mem_append_right _ (DP hb e)))).2.1
  cases f with
  | next => obtain ⟨σ7,H7,I7,n7⟩ := q7; exact again I7 n7
  | cont => obtain ⟨σ7,H7,I7,n7⟩ := q7; exact again I7 n7
  | brk => obtain ⟨σ7,H7,I7,q7⟩ := q7; exact ⟨σ7,H7,I7.unpinned,q7⟩
  | ret v => obtain ⟨x7,σ7,H7,I7,r7,q7⟩ := q7; exact ⟨x7,σ7,H7,I7.unpinned,r7,q7⟩
end
theorem DQ {K : PySem.W.Frag} (Pv : Nat -> St -> Hp -> Prop) (h0 : Pv 0 σ H) (hl : ∀ i σ H,i <= xs.length -> Pv i σ H -> Am K H a xs)
  (hs : ∀ i x σ H,xs[i]? = some x -> Pv i σ H -> g x σ H fun σ2 H2 => tb { D with nx := Pv (i + 1),ct := Pv (i + 1),bk := D.nx } σ2 H2) (hd : ∀ σ H,Pv xs.length σ H -> D.nx σ H) :
  ∃ W : Nat -> Nat -> St -> Hp -> Prop,(∃ m,W 0 m σ H) /\ ∀ i m σ H,W i m σ H ->
   ((DO K a).stop i H /\ D.nx σ H) \/ ((DO K a).go i H /\ ∃ N : St -> Hp -> Prop,(∀ σ' H',N σ' H' -> ∃ m',m' < m /\ W (i + 1) m' σ' H') /\ ∀ x H',(DO K a).yld i H x H' -> g x σ H' fun σ2 H2 => tb { D with nx := N,ct := N,bk := D.nx } σ2 H2) := by
 refine ⟨fun i m σ H => m = xs.length - i /\ i <= xs.length /\ Pv i σ H,⟨xs.length,by simp,Nat.zero_le _,h0⟩,?_⟩
 rintro i m σ H ⟨rfl,hi,p⟩
 have q := hl i σ H hi p
 by_cases hlt : i < xs.length
 ·refine .inr ⟨⟨xs,xs[i],q,by simp [hlt]⟩,Pv (i + 1),fun σ' H' p' => ⟨xs.length - (i + 1),by omega,rfl,hlt,p'⟩,fun x H' y => ?_⟩
  obtain ⟨e,y⟩ := y
  subst e
  exact hs i x σ _ (y xs q) p
 ·have e : i = xs.length := by omega
  subst e
  exact .inl ⟨⟨xs,q,Nat.le_refl _⟩,hd σ H p⟩
theorem LM {K : PySem.W.Frag} (Pv : Nat -> St -> Hp -> Prop) (h0 : Pv 0 σ H) (hl : ∀ i σ H,i <= xs.length -> Pv i σ H -> Af K H a xs)
  (hs : ∀ i x σ H,xs[i]? = some x -> Pv i σ H -> g x σ H fun σ2 H2 => tb { D with nx := Pv (i + 1),ct := Pv (i + 1),bk := D.nx } σ2 H2) (hd : ∀ σ H,Pv xs.length σ H -> D.nx σ H) :
  ∃ W : Nat -> Nat -> St -> Hp -> Prop,(∃ m,W 0 m σ H) /\ ∀ i m σ H,W i m σ H ->
   ((Ds K a).stop i H /\ D.nx σ H) \/ ((Ds K a).go i H /\ ∃ N : St -> Hp -> Prop,(∀ σ' H',N σ' H' -> ∃ m',m' < m /\ W (i + 1) m' σ' H') /\ ∀ x H',(Ds K a).yld i H x H' -> g x σ H' fun σ2 H2 => tb { D with nx := N,ct := N,bk := D.nx } σ2 H2) := by
 refine ⟨fun i m σ H => m = xs.length - i /\ i <= xs.length /\ Pv i σ H,⟨xs.length,by simp,Nat.zero_le _,h0⟩,?_⟩
 rintro i m σ H ⟨rfl,hi,p⟩
 have q := hl i σ H hi p
 by_cases hlt : i < xs.length
 ·refine .inr ⟨⟨xs,xs[i],q,by simp [hlt]⟩,Pv (i + 1),fun σ' H' p' => ⟨xs.length - (i + 1),by omega,rfl,hlt,p'⟩,fun x H' y => ?_⟩
  obtain ⟨e,y⟩ := y
  subst e
  exact hs i x σ _ (y xs q) p
 ·have e : i = xs.length := by omega
  subst e
  exact .inl ⟨⟨xs,q,Nat.le_refl _⟩,hd σ H p⟩
theorem Ey {lo : Int} {n : Nat} (Pv : Nat -> St -> Hp -> Prop) (h0 : Pv 0 σ H)
  (hs : ∀ i σ H,i < n -> Pv i σ H -> g (.int (lo + i)) σ H fun σ2 H2 => tb { D with nx := Pv (i + 1),ct := Pv (i + 1),bk := D.nx } σ2 H2) (hd : ∀ σ H,Pv n σ H -> D.nx σ H) :
  ∃ W : Nat -> Nat -> St -> Hp -> Prop,(∃ m,W 0 m σ H) /\ ∀ i m σ H,W i m σ H ->
   ((CK lo n).stop i H /\ D.nx σ H) \/ ((CK lo n).go i H /\ ∃ N : St -> Hp -> Prop,(∀ σ' H',N σ' H' -> ∃ m',m' < m /\ W (i + 1) m' σ' H') /\ ∀ x H',(CK lo n).yld i H x H' -> g x σ H' fun σ2 H2 => tb { D with nx := N,ct := N,bk := D.nx } σ2 H2) := by
 refine ⟨fun i m σ H => m = n - i /\ i <= n /\ Pv i σ H,⟨n,by simp,Nat.zero_le _,h0⟩,?_⟩
 rintro i m σ H ⟨rfl,hi,p⟩
 by_cases hlt : i < n
 ·refine .inr ⟨hlt,Pv (i + 1),fun σ' H' p' => ⟨n - (i + 1),by omega,rfl,hlt,p'⟩,fun x H' y => ?_⟩
  obtain ⟨e,y⟩ := y
  subst e y
  exact hs i σ _ hlt p
 ·have e : i = n := by omega
  subst e
  exact .inl ⟨Nat.le_refl _,hd σ H p⟩
end L2
namespace L2
open PySem PySem.Spec PyProof.Rows
variable {g : Int -> Int -> Int} {i j : Int} {us : List Value}
abbrev R2 := V -> V -> Hp -> VK -> Prop
def OpR (X : Cx) (f : Value -> Value -> Sem Value) (r : R2) : Prop :=
 ∀ (pins : List (Addr × Obj)) (s : Shared) (σ : St) (H : Hp) (x y : V) (v u : Value) (Q : VK),Ac X pins σ H s -> Aw x v -> Aw y u -> r x y H Q ->
  wpAny (model X.prog X.w) X.A (f v u) (EP X pins σ Q) X.xe s
def GN (X : Cx) (f : Value -> Sem Value) (r : V -> Hp -> VK -> Prop) : Prop :=
 ∀ (pins : List (Addr × Obj)) (s : Shared) (σ : St) (H : Hp) (x : V) (v : Value) (Q : VK),Ac X pins σ H s -> Aw x v -> r x H Q ->
  wpAny (model X.prog X.w) X.A (f v) (EP X pins σ Q) X.xe s
def Bu (X : Cx) (f : Value) (r : List V -> Hp -> VK -> Prop) : Prop :=
 ∀ (pins : List (Addr × Obj)) (s : Shared) (σ : St) (H : Hp) (xs : List V) (us : List Value) (Q : VK),Ac X pins σ H s -> At xs us -> r xs H Q ->
  wpAny (model X.prog X.w) X.A (call f us) (EP X pins σ Q) X.xe s
def Ez (r : R2) (ta tb : TE) : TE := fun σ H Q => ta σ H fun x H1 => tb σ H1 fun y H2 => r x y H2 Q
def LN (r : V -> Hp -> VK -> Prop) (ta : TE) : TE := fun σ H Q => ta σ H fun x H1 => r x H1 Q
def rI (C : Int -> Int -> Prop) (g : Int -> Int -> V) : R2 := fun x y H Q => ∃ i j,x = .int i /\ y = .int j /\ C i j /\ Q (g i j) H
def CL (g : Int -> Int -> V) : R2 := fun x y H Q => ∃ i j,x = .int i /\ y = .int j /\ Q (g i j) H
def rU (g : Int -> V) : V -> Hp -> VK -> Prop := fun x H Q => ∃ i,x = .int i /\ Q (g i) H
section
variable {X : Cx} {a b c : Expr} {ta tb tc : TE} {pos : Pos}
theorem GO (ha : PE X a ta) (hb : PE X b tb) {pins : List (Addr × Obj)} {s : Shared} {σ : St} {H : Hp} {R : V -> V -> Hp -> Prop} (I : Ac X pins σ H s)
  (h : ta σ H fun x H1 => tb σ H1 fun y H2 => R x y H2) {Q : Value -> Shared -> Prop} {f : Value -> Value -> Sem Value}
  (hf : ∀ v u s2 x y H2,Ac X pins σ H2 s2 -> Aw x v -> Aw y u -> R x y H2 -> wpAny (model X.prog X.w) X.A (f v u) Q X.xe s2) :
  wpAny (model X.prog X.w) X.A (eval a X.env) (fun v s₁ => wpAny (model X.prog X.w) X.A (eval b X.env) (fun u s₂ => wpAny (model X.prog X.w) X.A (f v u) Q X.xe s₂) X.xe s₁) X.xe s := by
 refine Ar (ha pins s σ H _ I h) fun v s1 ⟨x,H1,I1,r1,q1⟩ => ?_
 refine Ar (hb pins s1 σ H1 _ I1 q1) fun u s2 ⟨y,H2,I2,r2,q2⟩ => ?_
 exact hf v u s2 x y H2 I2 r1 r2 q2
theorem As {op : Operator} {r : R2} (ho : OpR X (binaryOp op) r) (ha : PE X a ta) (hb : PE X b tb) : PE X (.BinOp a op b pos) (Ez r ta tb) := by
 intro pins s σ H Q I h
 exact wpAny_BinOp (GO ha hb I h fun v u s2 x y H2 I2 rx ry q => ho pins s2 σ H2 x y v u Q I2 rx ry q)
theorem IJ {op : UnaryOp} {r : V -> Hp -> VK -> Prop} (ho : GN X (unaryOp op) r) (ha : PE X a ta) : PE X (.UnaryOp op a pos) (LN r ta) := by
 intro pins s σ H Q I h
 exact UnaryOp_ (Ar (ha pins s σ H _ I h) fun v s1 ⟨x,H1,I1,r1,q1⟩ => ho pins s1 σ H1 x v Q I1 r1 q1)
theorem E6 {f : Value -> Value -> Sem Value} {C : Int -> Int -> Prop}
  (rule : ∀ (i j : Int) (t u : Tok) (s : Shared) (Q : Value -> Shared -> Prop) (E : Value -> Shared -> Prop),C i j -> Q (.int (g i j) s.toks) { s with toks := s.toks + 1 } -> wpAny (model X.prog X.w) X.A (f (.int i t) (.int j u)) Q E s) :
  OpR X f (rI C fun i j => .int (g i j)) := by
 intro pins s σ H x y v u Q I rx ry h
 obtain ⟨i,j,rfl,rfl,hc,q⟩ := h
 obtain ⟨t,rfl⟩ := rx
 obtain ⟨t',rfl⟩ := ry
 exact rule i j t t' s _ _ hc ⟨.int (g i j),H,I.tok _,⟨_,rfl⟩,q⟩
theorem IK {f : Value -> Value -> Sem Value}
  (rule : ∀ (i j : Int) (t u : Tok) (s : Shared) (Q : Value -> Shared -> Prop) (E : Value -> Shared -> Prop),Q (.int (g i j) s.toks) { s with toks := s.toks + 1 } -> wpAny (model X.prog X.w) X.A (f (.int i t) (.int j u)) Q E s) :
  OpR X f (CL fun i j => .int (g i j)) := by
 intro pins s σ H x y v u Q I rx ry h
 obtain ⟨i,j,rfl,rfl,q⟩ := h
 obtain ⟨t,rfl⟩ := rx
 obtain ⟨t',rfl⟩ := ry
 exact rule i j t t' s _ _ ⟨.int (g i j),H,I.tok _,⟨_,rfl⟩,q⟩
theorem E7 {f : Value -> Value -> Sem Value} {g : Int -> Int -> Bool}
  (rule : ∀ (i j : Int) (t u : Tok) (s : Shared) (Q : Value -> Shared -> Prop) (E : Value -> Shared -> Prop),Q (.bool (g i j)) s -> wpAny (model X.prog X.w) X.A (f (.int i t) (.int j u)) Q E s) :
  OpR X f (CL fun i j => .bl (g i j)) := by
 intro pins s σ H x y v u Q I rx ry h
 obtain ⟨i,j,rfl,rfl,q⟩ := h
 obtain ⟨t,rfl⟩ := rx
 obtain ⟨t',rfl⟩ := ry
 exact rule i j t t' s _ _ ⟨.bl (g i j),H,I,rfl,q⟩
def GP (i j : Int) : Prop := 0 < j /\ j < 1073741824
def IL (i j : Int) : Prop := 0 <= j /\ j <= 1000000 /\ i.natAbs < 2 ^ 64
def CMul (i j : Int) : Prop := (-(2 ^ 64) < i /\ i < 2 ^ 64) \/ (-(2 ^ 64) < j /\ j < 2 ^ 64)
theorem CMul.ok (h : CMul i j) : IntMulOk i j := by
 rcases h with ⟨h1,h2⟩ | ⟨h1,h2⟩
 ·exact .of_left (intBits_le_64 h1 h2)
 ·exact .of_right (intBits_le_64 h1 h2)
theorem op_add : OpR X (binaryOp .Add) (CL fun i j => .int (i + j)) := IK fun _ _ _ _ _ _ _ q => add_int q
theorem op_sub : OpR X (binaryOp .Sub) (CL fun i j => .int (i - j)) := IK fun _ _ _ _ _ _ _ q => sub_int q
theorem op_mul : OpR X (binaryOp .Mult) (rI CMul fun i j => .int (i * j)) := E6 fun _ _ _ _ _ _ _ hc q => mul_int q hc.ok
theorem op_fdiv : OpR X (binaryOp .FloorDiv) (rI GP fun i j => .int (i / j)) := E6 fun i j _ _ _ _ _ hc q => by
 have h1 : (0 : Int) < j := hc.1
 have h2 : j < 1073741824 := hc.2
 exact floordiv_int (by omega) (by rw [Int.fdiv_eq_ediv_of_nonneg i (by omega)]; exact q) (.inl (PyProof.noPylong_small (by omega)))
theorem op_mod : OpR X (binaryOp .Mod) (rI (fun _ j => 0 < j) fun i j => .int (i % j)) := E6 fun i j _ _ _ _ _ hc q => by
 have h1 : (0 : Int) < j := hc
 exact mod_int' (by omega) (by rw [Int.fmod_eq_emod_of_nonneg i (by omega)]; exact q)
theorem op_pow : OpR X (binaryOp .Pow) (rI IL fun i j => .int (i ^ j.toNat)) := E6 fun _ _ _ _ _ _ _ hc q => pow_int_small hc.1 hc.2.1 hc.2.2 q
theorem LO {f : Value -> Sem Value} {g : Int -> Int}
  (rule : ∀ (i : Int) (t : Tok) (s : Shared) (Q : Value -> Shared -> Prop) (E : Value -> Shared -> Prop),Q (.int (g i) s.toks) { s with toks := s.toks + 1 } -> wpAny (model X.prog X.w) X.A (f (.int i t)) Q E s) :
  GN X f (rU fun i => .int (g i)) := by
 intro pins s σ H x v Q I rx h
 obtain ⟨i,rfl,q⟩ := h
 obtain ⟨t,rfl⟩ := rx
 exact rule i t s _ _ ⟨.int (g i),H,I.tok _,⟨_,rfl⟩,q⟩
theorem IM : GN X (unaryOp .USub) (rU fun i => .int (-i)) := LO fun _ _ _ _ _ q => neg_int q
end
def IN : V -> V -> Bool
 | .non,.non => true | .non,.int _ => true | .int _,.non => true | .non,.bl _ => true | .bl _,.non => true | .non,.str _ => true | .str _,.non => true
 | .int _,.int _ => true | .bl _,.bl _ => true | .str _,.str _ => true | .byt _,.byt _ => true
 | .int _,.str _ => true | .str _,.int _ => true | .bl _,.str _ => true | .str _,.bl _ => true
 | _,_ => false
def LP : R2 := fun x y H Q => IN x y = true /\ Q (.bl (decide (x = y))) H
def LQ : R2 := fun x y H Q => IN x y = true /\ Q (.bl (!decide (x = y))) H
theorem CM : decide (V.int i = V.int j) = (i == j) := by
 rw [Bool.eq_iff_iff]
 simp
theorem IO {i j : Bool} : decide (V.bl i = V.bl j) = (i == j) := by
 rw [Bool.eq_iff_iff]
 simp
theorem IP {i j : Str} : decide (V.str i = V.str j) = (i == j) := by
 rw [Bool.eq_iff_iff]
 simp
theorem IQ {i j : Array UInt8} : decide (V.byt i = V.byt j) = (i.toList == j.toList) := by
 rw [Bool.eq_iff_iff]
 cases i
 cases j
 simp
section
variable {X : Cx} {a b c : Expr} {ta tb tc : TE} {pos : Pos}
theorem AY {pins : List (Addr × Obj)} {σ : St} {H : Hp} {s : Shared} {Q : VK} {k k' : Bool} (I : Ac X pins σ H s) (q : Q (.bl k) H) (e : k = k') : EP X pins σ Q (.bool k') s := by
 subst e
 exact ⟨.bl k,H,I,rfl,q⟩
theorem CT : OpR X (compareOp .Eq) LP := by
 intro pins s σ H x y v u Q I rx ry h
 obtain ⟨hs,q⟩ := h
 cases x with
 | non =>
  cases rx
  cases y with
  | non => cases ry; exact PySem.EqNone.eq_none_none (AY I q (by simp))
  | bl j => cases ry; exact PySem.EqNone.eq_none_bool (AY I q (by simp))
  | int j => obtain ⟨t',rfl⟩ := ry; exact PySem.EqNone.eq_none_int (AY I q (by simp))
  | str j => obtain ⟨t',rfl⟩ := ry; exact PySem.EqNone.eq_none_str (AY I q (by simp))
  | _ => exact absurd (show false = true from hs) Bool.false_ne_true
 | bl i =>
  cases rx
  cases y with
  | non => cases ry; exact PySem.EqNone.eq_bool_none (AY I q (by simp))
  | bl j => cases ry; exact eq_bool (AY I q IO)
  | str j => obtain ⟨t',rfl⟩ := ry; exact PySem.EqMixed.eq_bool_str (AY I q (by simp))
  | _ => exact absurd (show false = true from hs) Bool.false_ne_true
 | int i =>
  obtain ⟨t,rfl⟩ := rx
  cases y with
  | non => cases ry; exact PySem.EqNone.eq_int_none (AY I q (by simp))
  | int j => obtain ⟨t',rfl⟩ := ry; exact eq_int (AY I q CM)
  | str j => obtain ⟨t',rfl⟩ := ry; exact PySem.EqMixed.eq_int_str (AY I q (by simp))
  | _ => exact absurd (show false = true from hs) Bool.false_ne_true
 | str i =>
  obtain ⟨t,rfl⟩ := rx
  cases y with
  | non => cases ry; exact PySem.EqNone.eq_str_none (AY I q (by simp))
  | bl j => cases ry; exact PySem.EqMixed.eq_str_bool (AY I q (by simp))
  | int j => obtain ⟨t',rfl⟩ := ry; exact PySem.EqMixed.eq_str_int (AY I q (by simp))
  | str j => obtain ⟨t',rfl⟩ := ry; exact eq_str (AY I q IP)
  | _ => exact absurd (show false = true from hs) Bool.false_ne_true
 | byt i =>
  obtain ⟨t,rfl⟩ := rx
  cases y with
  | byt j => obtain ⟨t',rfl⟩ := ry; exact PySem.W.eq_bytes (AY I q IQ)
  | _ => exact absurd (show false = true from hs) Bool.false_ne_true
 | _ => cases y <;> exact absurd (show false = true from hs) Bool.false_ne_true
theorem IR : OpR X (compareOp .NotEq) LQ := by
 intro pins s σ H x y v u Q I rx ry h
 obtain ⟨hs,q⟩ := h
 cases x with
 | non =>
  cases rx
  cases y with
  | non => cases ry; exact PySem.EqNone.ne_none_none (AY I q (by simp))
  | bl j => cases ry; exact PySem.EqNone.ne_none_bool (AY I q (by simp))
  | int j => obtain ⟨t',rfl⟩ := ry; exact PySem.EqNone.ne_none_int (AY I q (by simp))
  | str j => obtain ⟨t',rfl⟩ := ry; exact PySem.EqNone.ne_none_str (AY I q (by simp))
  | _ => exact absurd (show false = true from hs) Bool.false_ne_true
 | bl i =>
  cases rx
  cases y with
  | non => cases ry; exact PySem.EqNone.ne_bool_none (AY I q (by simp))
  | bl j => cases ry; exact ne_bool (AY I q (congrArg not IO))
  | str j => obtain ⟨t',rfl⟩ := ry; exact PySem.EqMixed.ne_bool_str (AY I q (by simp))
  | _ => exact absurd (show false = true from hs) Bool.false_ne_true
 | int i =>
  obtain ⟨t,rfl⟩ := rx
  cases y with
  | non => cases ry; exact PySem.EqNone.ne_int_none (AY I q (by simp))
  | int j => obtain ⟨t',rfl⟩ := ry; exact ne_int (AY I q (congrArg not CM))
  | str j => obtain ⟨t',rfl⟩ := ry; exact PySem.EqMixed.ne_int_str (AY I q (by simp))
  | _ => exact absurd (show false = true from hs) Bool.false_ne_true
 | str i =>
  obtain ⟨t,rfl⟩ := rx
  cases y with
  | non => cases ry; exact PySem.EqNone.ne_str_none (AY I q (by simp))
  | bl j => cases ry; exact PySem.EqMixed.ne_str_bool (AY I q (by simp))
  | int j => obtain ⟨t',rfl⟩ := ry; exact PySem.EqMixed.ne_str_int (AY I q (by simp))
  | str j => obtain ⟨t',rfl⟩ := ry; exact ne_str (AY I q (congrArg not IP))
  | _ => exact absurd (show false = true from hs) Bool.false_ne_true
 | byt i =>
  obtain ⟨t,rfl⟩ := rx
  cases y with
  | byt j => obtain ⟨t',rfl⟩ := ry; exact PySem.W.ne_bytes (AY I q (congrArg not IQ))
  | _ => exact absurd (show false = true from hs) Bool.false_ne_true
 | _ => cases y <;> exact absurd (show false = true from hs) Bool.false_ne_true
theorem op_lt : OpR X (compareOp .Lt) (CL fun i j => .bl (decide (i < j))) := E7 fun _ _ _ _ _ _ _ q => lt_int q
theorem op_le : OpR X (compareOp .LtE) (CL fun i j => .bl (decide (i <= j))) := E7 fun _ _ _ _ _ _ _ q => le_int q
theorem op_gt : OpR X (compareOp .Gt) (CL fun i j => .bl (decide (j < i))) := E7 fun _ _ _ _ _ _ _ q => gt_int q
theorem op_ge : OpR X (compareOp .GtE) (CL fun i j => .bl (decide (j <= i))) := E7 fun _ _ _ _ _ _ _ q => ge_int q
theorem IS : OpR X (compareOp .Is) (fun x y H Q => y = .non /\ Q (.bl (decide (x = .non))) H) := by
  intro pins s σ H x y v u Q I rx ry h
  obtain ⟨rfl,q⟩ := h
  cases ry
  refine is_none_gen (AY I q ?_)
  cases x <;> first
    | (cases rx; rfl)
    | (obtain ⟨t,rfl⟩ := rx; rfl)
theorem LR : OpR X (compareOp .IsNot) (fun x y H Q => y = .non /\ Q (.bl (!decide (x = .non))) H) := by
  intro pins s σ H x y v u Q I rx ry h
  obtain ⟨rfl,q⟩ := h
  cases ry
  refine isnot_none_gen (AY I q ?_)
  cases x <;> first
    | (cases rx; rfl)
    | (obtain ⟨t,rfl⟩ := rx; rfl)
theorem A6 (b : Expr) {op : CmpOp} (h : op ≠ .In := by decide) (h2 : op ≠ .NotIn := by decide) : behindInMarks op b = false := by
 have e1 : (op == CmpOp.In) = false := by cases op <;> first | rfl | exact absurd rfl h
 have e2 : (op == CmpOp.NotIn) = false := by cases op <;> first | rfl | exact absurd rfl h2
 cases b <;> simp [behindInMarks,e1,e2]
theorem DR {op : CmpOp} {r : R2} (ho : OpR X (compareOp op) r) (ha : PE X a ta) (hb : PE X b tb) (hm : behindInMarks op b = false) : PE X (.Compare a [op] [b] pos) (Ez r ta tb) := by
 intro pins s σ H Q I h
 exact wpAny_Compare1 (GO ha hb I h fun v u s2 x y H2 I2 rx ry q => ho pins s2 σ H2 x y v u Q I2 rx ry q) hm
theorem LS {xs : List V} {its : List Value} (r : At xs its) : (!its.toArray.isEmpty) = !xs.isEmpty := by
 cases r <;> simp
theorem E8 : (sizeLine : Nat) < 2 ^ 63 := by rw [sizeLine_eq]; decide
theorem EA {x : V} (r : At [x] us) : ∃ u,us = [u] /\ Aw x u := by
 cases r with
 | cons r1 r2 => cases r2; exact ⟨_,rfl,r1⟩
theorem GQ {x y : V} (r : At [x,y] us) : ∃ u w',us = [u,w'] /\ Aw x u /\ Aw y w' := by
 cases r with
 | cons r1 r2 =>
  cases r2 with
  | cons r3 r4 => cases r4; exact ⟨_,_,rfl,r1,r3⟩
theorem LT (hc : X.calm = true) : Bu X (.builtin "max") (fun xs H Q => ∃ i j,xs = [.int i,.int j] /\ Q (.int (if j > i then j else i)) H) := by
 intro pins s σ H xs us Q I r h
 obtain ⟨i,j,rfl,q⟩ := h
 obtain ⟨u,w',rfl,⟨t,rfl⟩,⟨t',rfl⟩⟩ := GQ r
 refine max_two_ints (I.ok.hd hc) fun h' tk k => ⟨_,H,I.kept k,?_,q⟩
 by_cases hj : j > i
 ·rw [if_pos hj,if_pos hj]; exact ⟨_,rfl⟩
 ·rw [if_neg hj,if_neg hj]; exact ⟨_,rfl⟩
theorem GR (hc : X.calm = true) : Bu X (.builtin "min") (fun xs H Q => ∃ i j,xs = [.int i,.int j] /\ Q (.int (if j < i then j else i)) H) := by
 intro pins s σ H xs us Q I r h
 obtain ⟨i,j,rfl,q⟩ := h
 obtain ⟨u,w',rfl,⟨t,rfl⟩,⟨t',rfl⟩⟩ := GQ r
 refine min_two_ints (I.ok.hd hc) fun h' tk k => ⟨_,H,I.kept k,?_,q⟩
 by_cases hj : j < i
 ·rw [if_pos hj,if_pos hj]; exact ⟨_,rfl⟩
 ·rw [if_neg hj,if_neg hj]; exact ⟨_,rfl⟩
theorem GS : Bu X (.type "int") (fun xs H Q => (∃ i,xs = [.int i] /\ Q (.int i) H) \/ ∃ k,xs = [.bl k] /\ Q (.int (if k then 1 else 0)) H) := by
 intro pins s σ H xs us Q I r h
 rcases h with ⟨i,rfl,q⟩ | ⟨k,rfl,q⟩
 ·obtain ⟨u,rfl,t,rfl⟩ := EA r
  exact call_int_int ⟨.int i,H,I,⟨_,rfl⟩,q⟩
 ·obtain ⟨u,rfl,r1⟩ := EA r
  cases r1
  exact call_int_bool ⟨.int (if k then 1 else 0),H,I.tok _,⟨_,rfl⟩,q⟩
theorem LU : Bu X (.builtin "divmod") (fun xs H Q => ∃ i j,xs = [.int i,.int j] /\ GP i j /\ ∀ p,H p = none -> Q (.ref p) (upd H p (.tup [.int (i / j),.int (i % j)]))) := by
 intro pins s σ H xs us Q I r h
 obtain ⟨i,j,rfl,⟨h1,h2⟩,q⟩ := h
 obtain ⟨u,w',rfl,⟨t,rfl⟩,⟨t',rfl⟩⟩ := GQ r
 refine divmod_int (by omega) ?_ (.inl (PyProof.noPylong_small (by omega)))
 rw [Int.fdiv_eq_ediv_of_nonneg i (by omega),Int.fmod_eq_emod_of_nonneg i (by omega)]
 have hn : H s.heap.objs.size = none := I.hok.fresh (Nat.le_refl _)
 refine ⟨.ref s.heap.objs.size,_,?_,rfl,q _ hn⟩
 refine I.laid (fun b o e => Heap.get?_push_of_some _ e) (Nat.le_refl _) ⟨by simp only [List.length_cons,List.length_nil]; rw [sizeLine_eq]; decide,[.int (i / j) s.toks,.int (i % j) (s.toks + 1)],.cons ⟨_,rfl⟩ (.cons ⟨_,rfl⟩ .nil),?_⟩
 exact ⟨_,Heap.get?_push_size s.heap rfl,rfl,0,rfl⟩
end
end L2
namespace L2
open PySem PySem.Spec PyProof.Rows
structure ObjM (h : Heap) (x dx C : Addr) (mA : Str -> Option Value) : Prop where
 obj : h.get? x = some (PySem.W.instObj C dx)
 ns : h.Ns1 dx mA
 ne : dx ≠ x
section
variable {prog : Program} {w : World} {A : Around} {E : Value -> Shared -> Prop} {s : Shared} {K : PySem.W.Frag} {x dx C f : Addr} {mA : Str -> Option Value} {name : Str} {v : Value}
end
section
variable {P : Program} {w : World} {H H' : Hp} {h h' : Heap} {a C dx : Addr} {fs fs' : List (Str × V)}
end
structure LV (K : PySem.W.Frag) (C : Addr) : Prop where
 pg : PySem.W.plainGet K C Str.empty = true
 hd : PySem.W.hasDictIn K C = true
 po : PySem.W.plainOver K C = true
 sa : PySem.W.findIn K (.ref C) "__setattr__" = some (some (.builtin "object.__setattr__"))
structure Con (K : PySem.W.Frag) (C : Addr) (f : Str) (v : V) (u : Value) : Prop where
 at_ : PySem.W.findIn K (.ref C) f = some (some u)
 rel : Aw v u
 get : PySem.W.specialIn K u "__get__" = some none
 cp : PySem.W.copiedNames.contains f = false
structure Meth (K : PySem.W.Frag) (C : Addr) (m : Str) (f : Addr) : Prop where
 at_ : PySem.W.findIn K (.ref C) m = some (some (.ref f))
 fn : PySem.W.isFn K (.ref f) = true
 kp : PySem.W.keepIn K (.ref f) = true
section
variable {X : Cx} {pins : List (Addr × Obj)} {σ : St} {H : Hp} {s : Shared} {a C dx : Addr} {fs : List (Str × V)} {f : Str} {v : V} {A : Around} {E : Value -> Shared -> Prop}
end
section
variable {X : Cx} {o e value : Expr} {f : Str} {pos pos' tpos : Pos} {ta tv : TE}
end
section
variable {X : Cx} {pins : List (Addr × Obj)} {σ : St} {H : Hp} {s : Shared} {A : Around} {E : Value -> Shared -> Prop} {Q : Value -> Shared -> Prop} {c : Value} {b : Bool}
inductive Cu (K : PySem.W.Frag) (H : Hp) : V -> Value -> Prop where
 | non : Cu K H .non (.type "NoneType")
 | bl (x : Bool) : Cu K H (.bl x) (.type "bool")
 | int (i : Int) : Cu K H (.int i) (.type "int")
 | str (x : Str) : Cu K H (.str x) (.type "str")
 | flt (x : UInt64) : Cu K H (.flt x) (.type "float")
 | lst {a : Addr} {xs : List V} (e : H a = some (.lst xs)) : Cu K H (.ref a) (.type "list")
 | frz {a : Addr} {o : Obj} {xs : List V} (e : H a = some (.frz o (.lst xs))) : Cu K H (.ref a) (.type "list")
 | tup {a : Addr} {xs : List V} (e : H a = some (.tup xs)) : Cu K H (.ref a) (.type "tuple")
 | dK {a : Addr} {kvs : List (AO × V)} (e : H a = some (.dK kvs)) : Cu K H (.ref a) (.type "dict")
 | dT {a : Addr} {kvs : List (List AO × V)} (e : H a = some (.dT kvs)) : Cu K H (.ref a) (.type "dict")
 | ins {a C dx : Addr} {fs : List (Str × V)} (e : H a = some (.ins C dx fs)) (cl : LV K C) (ha : PySem.W.findIn K (.ref C) "__class__" = some (some (.builtin "object.__class__")))
   (hn : PySem.W.specialIn K (.builtin "object.__class__") "__get__" = some (some (.builtin "getset_descriptor.__get__"))) (htk : PySem.W.takesIn K (.builtin "object.__class__") = some true)
   (hm : PySem.W.mroIn K C (.type "object") = some true) : Cu K H (.ref a) (.ref C)
end
end L2
namespace L2
open PySem PySem.Spec PyProof.Rows
variable {Q : VK} {us : List Value} {vs : List V} {P : Program} {kindOf : Str -> Option NameKind} {qual : Str} {scope : Scope}
structure AX (k : Nat) (A : Around) : Prop where
 hd : A.handled = none
 dp : A.depth + 3 * k + 5 < recursionLimit
 un : A.units + 16 * k + 200 < cLine
 gd : A.guards = some []
theorem AX.mono {j k : Nat} {A : Around} (r : AX k A) (h : j <= k) : AX j A := ⟨r.hd,by have := r.dp; omega,by have := r.un; omega,r.gd⟩
theorem AX.deeper {k : Nat} {A : Around} (r : AX (k + 1) A) (env : Env) : AX k (A.deeper env) :=
 ⟨r.hd,by have := r.dp; show A.depth + 1 + 3 * k + 5 < _; omega,by have := r.un; show A.units + 3 + 16 * k + 200 < _; omega,r.gd⟩
theorem AX.depth {k : Nat} {A : Around} (r : AX k A) : A.depth < recursionLimit := by have := r.dp; omega
def Dt : TA := fun _ H Q => Q [] H
def B4 (ta : TE) (tr : TA) : TA := fun σ H Q => ta σ H fun x H1 => tr σ H1 fun xs H2 => Q (x :: xs) H2
section
variable {X : Cx} {e : Expr} {es : List Expr} {te : TE} {t : TA} {pos : Pos}
theorem BJ : PA X [] Dt := fun _ _ _ _ H Q I h => Calls.spliced_nil ⟨[],H,I,.nil,h⟩
theorem Bg (ha : PE X e te) (hr : PA X es t) (hs : starEach (e :: es) X.env = (false,eval e X.env) :: starEach es X.env := by rfl) : PA X (e :: es) (B4 te t) := by
 intro pos pins s σ H Q I h
 rw [hs]
 show wpAny _ _ (spliced ((false,eval e X.env) :: backTo pos (starEach es X.env))) _ _ s
 refine Calls.spliced_cons (Ar (ha pins s σ H _ I h) fun u s1 ⟨x,H1,I1,r1,q1⟩ => ?_)
 exact Ar (hr pos pins s1 σ H1 _ I1 q1) fun us s2 ⟨xs,H2,I2,r2,q2⟩ => ⟨x :: xs,H2,I2,.cons r1 r2,q2⟩
end
abbrev Sp := List V -> Hp -> VK -> XK -> Prop
abbrev Cc := List Env -> Hp -> Shared -> XK -> Value -> Shared -> Prop
structure Cv (P : Program) (w : World) (K : PySem.W.Frag) (mg : Str -> Option Value) (base : Heap) (A : Around) (outer : List Env) (s : Shared) (H : Hp) : Prop where
 frames : A.frames = some outer
 mod : Mod K mg base
 bs : ∀ b o,base.get? b = some o -> s.heap.get? b = some o /\ H b = none
 bsz : base.objs.size <= s.heap.objs.size
 funs : s.heap.FunFrames base outer
 frf : ∀ b ∈ AE outer,H b = none
 hok : HOk P w H s.heap
 bare : AllBare s.gens
def CE (outer : List Env) (P : Program) (w : World) (H : Hp) (s : Shared) (Q : VK) (u : Value) (s' : Shared) : Prop :=
 ∃ v H',s'.os = s.os /\ AllBare s'.gens /\ Un (AE outer) [] H H' s.heap s'.heap /\ HOk P w H' s'.heap /\ Aw v u /\ Q v H'
def CR (CX : Cc) (outer : List Env) (P : Program) (w : World) (H : Hp) (s : Shared) (Q : VK) (E : XK) (r : Result) (s' : Shared) : Prop :=
 match r with
 | .ok (.ret u) => CE outer P w H s Q u s'
 | .ok _ => False
 | .error e => CX outer H s E e s'
structure Cw (P : Program) (w : World) (K : PySem.W.Frag) (mg : Str -> Option Value) (base : Heap) (CX : Cc) (k : Nat) (f : Addr) (fd : FuncData) (ps : List Str) (sp : Sp) : Prop where
 len : ∀ vs H Q E,sp vs H Q E -> vs.length = ps.length
 run : ∀ (A : Around) (outer : List Env) (s : Shared) (H : Hp) (args : Args) (us : List Value) (vs : List V) (Q : VK) (E : XK),AX k A -> Cv P w K mg base A outer s H -> BindsTo s fd args (ps.zip us) -> At vs us -> sp vs H Q E ->
  codeAny (model P w) A (.call (.ref f) args) (CR CX outer P w H s Q E) s
section
variable {X : Cx} {pins : List (Addr × Obj)} {σ : St} {H : Hp} {s s' : Shared}
theorem Ac.env0 (I : Ac X pins σ H s) : Cv X.prog X.w X.K X.mg X.base X.A X.stack s H :=
 ⟨I.ok.frames,I.ok.mod,I.bs,Nat.le_trans I.ok.bsz I.sz,I.stack,I.stkFree,I.hok,I.bare⟩
theorem Ac.after {u : Value} (I : Ac X pins σ H s) (h : CE X.stack X.prog X.w H s Q u s') : EP X pins σ Q u s' := by
 obtain ⟨v,H',os,bare,un,hok,r,q⟩ := h
 obtain ⟨hh,g,d,t,os'⟩ := s'
 obtain rfl : os' = s.os := os
 exact ⟨v,H',I.call (h' := hh) (g' := g) (d' := d) (t' := t) (ch := []) un hok bare (fun b z => absurd z (by simp)),r,q⟩
end
def LW (sp : Sp) (dvs : List V) (E : XK) (t : TA) : TE := fun σ H Q => t σ H fun vs H1 => sp (vs ++ dvs) H1 Q E
def Binds (K : PySem.W.Frag) (fd : FuncData) (ps : List Str) (ds : List Value) : Prop :=
 ∀ (s : Shared) (us : List Value),K.In s.heap -> (us ++ ds).length = ps.length -> BindsTo s fd ⟨us,[]⟩ (ps.zip (us ++ ds))
theorem Binds.all {K : PySem.W.Frag} {fd : FuncData} {ps : List Str} (h : ∀ us : List Value,us.length = ps.length -> bindArgs fd ⟨us,[]⟩ = pure (ps.zip us)) : Binds K fd ps [] := fun s us _ hl => by
 rw [List.append_nil] at hl ⊢
 exact .of_eq (h us hl)
def E9 (CX : Cc) (X : Cx) (E : XK) : Prop := ∀ (pins : List (Addr × Obj)) (σ : St) (H : Hp) (s : Shared) (e : Value) (s' : Shared),Ac X pins σ H s -> CX X.stack H s E e s' -> X.xe e s'
section
variable {X : Cx} {CX : Cc} {k : Nat} {f C : Addr} {fd : FuncData} {ps : List Str} {sp : Sp} {dvs : List V} {ds : List Value} {E : XK} {x m : Str} {p pos apos : Pos} {e o : Expr} {es : List Expr} {ta : TE} {t : TA}
theorem LY {pins : List (Addr × Obj)} {σ : St} {H : Hp} {s : Shared} (F : Cw X.prog X.w X.K X.mg X.base CX k f fd ps sp) (hr : AX k X.A) (hb : Binds X.K fd ps ds) (hd : At dvs ds) (hx : E9 CX X E)
  (I : Ac X pins σ H s) (r : At vs us) (h : sp (vs ++ dvs) H Q E) : wpAny (model X.prog X.w) X.A (call (.ref f) us) (EP X pins σ Q) X.xe s := by
 have r2 : At (vs ++ dvs) (us ++ ds) := r.append hd
 have hl : (us ++ ds).length = ps.length := by rw [<- r2.length]; exact F.len _ _ _ _ h
 refine wpAny_call (codeAny_mono (F.run X.A X.stack s H ⟨us,[]⟩ (us ++ ds) (vs ++ dvs) Q E hr I.env0 (hb s us I.kIn hl) r2 h) fun r s' hq => ?_)
 cases r with
 | error e => exact hx pins σ H s e s' I hq
 | ok fl =>
  cases fl with
  | ret u => exact I.after hq
  | next => exact False.elim hq
  | brk => exact False.elim hq
  | cont => exact False.elim hq
theorem IT (F : Cw X.prog X.w X.K X.mg X.base CX k f fd ps sp) (hr : AX k X.A) (hg : Gl X x) (hm : X.mg x = some (.ref f)) (hk : PySem.W.keepIn X.K (.ref f) = true) (hb : Binds X.K fd ps ds) (hd : At dvs ds) (hx : E9 CX X E)
  (ha : PA X (e :: es) t) (hdb : (x == ("__debug__" : Str)) = false := by decide) (he : starEach (e :: es) X.env = (false,eval e X.env) :: starEach es X.env := by rfl) (hpl : (backTo pos (starEach es X.env)).any (·.1) = false := by rfl) :
  PE X (.Call (.Name x p) (e :: es) [] pos) (LW sp dvs E t) := by
 intro pins s σ H Q I h
 refine wpAny_Call_Name_kw (DN I hg hm ?_ hdb)
 refine PySem.W.callWith_K (h₀ := X.base) I.ok.mod.kin hk (Ar (ha pos pins s σ H _ I h) fun us s1 ⟨vs,H1,I1,r,q⟩ => ⟨I1.kIn,?_⟩) he hpl
 exact LY F hr hb hd hx I1 r q
structure Mk (K : PySem.W.Frag) (C f : Addr) : Prop where
 makes : PySem.W.makesIn K C = true
 init : PySem.W.findIn K (.ref C) "__init__" = some (some (.ref f))
 fn : PySem.W.isFn K (.ref f) = true
 kp : PySem.W.keepIn K (.ref C) = true
end
section
variable {X : Cx} {CX : Cc} {k : Nat} {f C : Addr} {fd : FuncData} {ps ks : List Str} {sp : Sp} {E : XK} {x m : Str} {p pos apos kpos : Pos} {e o : Expr} {es : List Expr} {kws : List Keyword} {te ta : TE} {t tk : TA} {nm : Option Str}
structure KBinds (K : PySem.W.Frag) (fd : FuncData) (ps ks : List Str) (g : List Value -> List Value -> List Value) (gV : List V -> List V -> List V) : Prop where
 to : ∀ (s : Shared) (us ws : List Value),K.In s.heap -> (g us ws).length = ps.length -> BindsTo s fd ⟨us,ks.zip ws⟩ (ps.zip (g us ws))
 rel : ∀ {vs : List V} {us : List Value} {zs : List V} {ws : List Value},At vs us -> At zs ws -> At (gV vs zs) (g us ws)
variable {g : List Value -> List Value -> List Value} {gV : List V -> List V -> List V}
end
structure Ax (N P : List Str) (sc : Scope) : Prop where
 kind : sc.kind = .function
 co : sc.isCoroutine = false
 gen : sc.isGenerator = false
 nd : N.Nodup
 pre : N.take P.length = P
 par : ∀ x ∈ P,sc.names.lookup x = some .local \/ sc.names.lookup x = some .cell
 nofree : ∀ y ∈ sc.names,y.2 ≠ .free
theorem AF {N P : List Str} {sc : Scope} (a : sc.kind = .function := by rfl) (b : sc.isCoroutine = false := by rfl) (c : sc.isGenerator = false := by rfl) (d : N.Nodup := by decide +kernel) (e : N.take P.length = P := by rfl) (f : ∀ x ∈ P,sc.names.lookup x = some .local \/ sc.names.lookup x = some .cell := by decide +kernel) (g : ∀ y ∈ sc.names,y.2 ≠ .free := by decide +kernel) : Ax N P sc := ⟨a,b,c,d,e,f,g⟩
theorem IU {x : Str} : ∀ {binds : List (Str × Value)} {m : Str -> Option Value},(∀ v,(x,v) ∉ binds) -> bindL kindOf binds m x = m x
  | [],_,_ => rfl
  | (n, v) :: r, m, h => by
    unfold bindL
    rw [IU fun w hw => h w (List.mem_cons_of_mem _ hw)]
    split
    . have : x ≠ n := by rintro rfl; exact h v List.mem_cons_self
      simp [this]
    . rfl
theorem IV {x : Str} : ∀ {binds : List (Str × Value)} {m : Str -> Option Value},(∀ v,(x,v) ∉ binds) -> bindC kindOf binds m x = m x
  | [],_,_ => rfl
  | (n, v) :: r, m, h => by
    unfold bindC
    rw [IV fun w hw => h w (List.mem_cons_of_mem _ hw)]
    split
    . rfl
    . have : x ≠ n := by rintro rfl; exact h v List.mem_cons_self
      simp [this]
theorem IW {kindOf : Str -> Option NameKind} {x : Str} {v : Value} : ∀ {P : List Str} {vs : List Value} {i : Nat} {m : Str -> Option Value},P.Nodup -> P[i]? = some x -> vs[i]? = some v -> kindOf x = some .local ->
  bindL kindOf (P.zip vs) m x = some v
 | [],_,_,_,_,h,_,_ => by simp at h
 | _ :: _,[],_,_,_,_,h,_ => by simp at h
 | p :: P,w :: vs,0,m,nd,h1,h2,hk => by
  simp at h1 h2; subst h1; subst h2
  show bindL kindOf ((p,w) :: P.zip vs) m p = _
  unfold bindL
  rw [IU fun v hv => (List.nodup_cons.mp nd).1 (List.of_mem_zip hv).1,if_pos hk]
  simp
 | p :: P,w :: vs,i + 1,m,nd,h1,h2,hk => by
  show bindL kindOf ((p,w) :: P.zip vs) m x = _
  unfold bindL
  exact IW (i := i) (List.nodup_cons.mp nd).2 (by simpa using h1) (by simpa using h2) hk
theorem IY {kindOf : Str -> Option NameKind} {x : Str} {v : Value} : ∀ {P : List Str} {vs : List Value} {i : Nat} {m : Str -> Option Value},P.Nodup -> P[i]? = some x -> vs[i]? = some v -> kindOf x ≠ some .local ->
  bindC kindOf (P.zip vs) m x = some v
 | [],_,_,_,_,h,_,_ => by simp at h
 | _ :: _,[],_,_,_,_,h,_ => by simp at h
 | p :: P,w :: vs,0,m,nd,h1,h2,hk => by
  simp at h1 h2; subst h1; subst h2
  show bindC kindOf ((p,w) :: P.zip vs) m p = _
  unfold bindC
  rw [IV fun v hv => (List.nodup_cons.mp nd).1 (List.of_mem_zip hv).1,if_neg hk]
  simp
 | p :: P,w :: vs,i + 1,m,nd,h1,h2,hk => by
  show bindC kindOf ((p,w) :: P.zip vs) m x = _
  unfold bindC
  exact IY (i := i) (List.nodup_cons.mp nd).2 (by simpa using h1) (by simpa using h2) hk
def start (N : List Str) (vs : List V) : St := vs.map some ++ List.replicate (N.length - vs.length) none
def BK (CX : Cc) (P : Program) (w : World) (K : PySem.W.Frag) (mg : Str -> Option Value) (base : Heap) (N : List Str) (qual : Str) (scope : Scope) (f : Addr) (cd : Value) (A : Around) (outer : List Env) (s : Shared) (H : Hp) (E : XK) : Cx where
 prog := P
 w := w
 K := K
 mg := mg
 base := base
 A := A.deeper (envOfC qual scope s.heap.objs.size f cd)
 N := N
 s₀ := s
 H₀ := H
 env := envOfC qual scope s.heap.objs.size f cd
 outer := outer
 stack := envOfC qual scope s.heap.objs.size f cd :: outer
 ex := []
 calm := true
 fn := fun _ => true
 pn := []
 xe := fun e s' => wpAny (model P w) (A.deeper (envOfC qual scope s.heap.objs.size f cd)) (leaving (envOfC qual scope s.heap.objs.size f cd) e) (fun _ s'' => CX outer H s E e s'') (fun e' s'' => CX outer H s E e' s'') s'
theorem IZ {sc : Scope} {n : Nat} {x : Str} (h : sc.names.lookup x = some .cell) : ∃ c,(cellsFrom n sc.names []).lookup x = some c := by
 have q := PySem.W.cellsFrom_some sc.names n [] (.inl h)
 exact Option.isSome_iff_exists.mp q
theorem I9 {CX : Cc} {w : World} {K : PySem.W.Frag} {mg : Str -> Option Value} {base : Heap} {N ps : List Str} {f : Addr} {cd : Value} {A : Around} {outer : List Env} {s s1 : Shared} {H : Hp} {E : XK}
  (S : Ax N ps scope) (hd : A.handled = none) (e0 : Cv P w K mg base A outer s H) (hl : vs.length = ps.length) (r : At vs us)
  (x : InCallC s s.heap.objs.size (bindL (envOfC qual scope s.heap.objs.size f cd).kindOf (ps.zip us) fun _ => none) (cellsFrom (s.heap.objs.size + 1) scope.names []) (bindC (envOfC qual scope s.heap.objs.size f cd).kindOf (ps.zip us) fun _ => none) s1) :
  Ac (BK CX P w K mg base N qual scope f cd A outer s H E) [] (start N vs) H s1 := by
 have hpl : ps.length <= N.length := by have := congrArg List.length S.pre; rw [List.length_take] at this; omega
 obtain ⟨h1,tk,rfl,hk⟩ := x.done
 have noA : ∀ b : Addr,b ∉ (BK CX P w K mg base N qual scope f cd A outer s H E).ex := fun b z => absurd (show b ∈ ([] : List Addr) from z) (by simp)
 refine ⟨⟨e0.mod,S.kind,rfl,rfl,Nat.le_refl _,fun y z c h1 h2 => ?_,fun y hy => ?_,fun y c _ h => ?_,fun _ => hd,Around.frames_deeper e0.frames,.inr ⟨rfl,rfl⟩,fun b z => absurd z (noA b),e0.bs,e0.bsz,fun b _ _ => noA b,fun b z => absurd z (noA b),e0.funs,e0.frf⟩,
  rfl,e0.bare,Un.kept hk,⟨_,x.toInCall.ns,fun i y v h1 h2 h3 => ?_⟩,fun y c h => ⟨_,x.cell y c h⟩,e0.hok.fresh (Nat.le_refl _),fun y c h => ?_,fun p hp => absurd (show p ∈ ([] : List (Addr × Obj)) from hp) (by simp),e0.hok.kept hk,?_⟩
 ·exact name_of_addr x.apart (PySem.mem_of_lookup h1) (PySem.mem_of_lookup h2)
 ·have hy : scope.names.lookup y = some .cell \/ scope.names.lookup y = some .free := hy
  rcases hy with hy | hy
  ·exact IZ hy
  ·exact absurd rfl (S.nofree _ (PySem.mem_of_lookup hy))
 ·exact Nat.le_of_lt (x.above y c (PySem.mem_of_lookup h))
 ·have hi : i < vs.length := by
   unfold start at h2
   by_cases hi : i < vs.length
   ·exact hi
   ·rw [List.getElem?_append_right (by simpa using hi)] at h2
    rw [List.getElem?_replicate] at h2
    split at h2 <;> cases h2
  have ha : vs[i]? = some v := by
   unfold start at h2
   rw [List.getElem?_append_left (by simpa using hi),List.getElem?_map] at h2
   cases e : vs[i]? with
   | none => rw [e] at h2; cases h2
   | some a => rw [e] at h2; cases h2; rfl
  obtain ⟨u,hu,rv⟩ := r.get ha
  have hp : ps[i]? = some y := by
   rw [<- S.pre,List.getElem?_take_of_lt (by omega)]; exact h1
  have ndP : ps.Nodup := by rw [<- S.pre]; exact S.nd.sublist (List.take_sublist _ _)
  refine ⟨u,rv,?_⟩
  rcases S.par y (List.mem_of_getElem? hp) with k | k
  ·exact .inl ⟨k,IW ndP hp hu k⟩
  ·obtain ⟨c,e⟩ := IZ (n := s.heap.objs.size + 1) k
   refine .inr ⟨.inl k,c,e,?_⟩
   have q := x.cell y c e
   rw [IY ndP hp hu (by show scope.names.lookup y ≠ _; rw [k]; decide)] at q
   exact q
 ·exact e0.hok.fresh (Nat.le_of_lt (x.above y c (PySem.mem_of_lookup h)))
 ·unfold start
  show _ = N.length
  rw [List.length_append,List.length_map,List.length_replicate]
  omega
theorem GT {CX : Cc} {w : World} {K : PySem.W.Frag} {mg : Str -> Option Value} {base : Heap} {k : Nat} {f : Addr} {name : Str} {params : Arguments} {body : List Stmt} {dV kV doc pm cdv ct oc : Value} {an od : Option Addr}
  {osl : Array (Option Value)} {N ps : List Str} {sp : Sp} (lk : K.lookup f = some ⟨oc,od,.func (PySem.W.fnOf name qual params body scope dV kV doc pm an cdv ct),osl⟩) (hcd : PySem.W.codeIn K cdv qual = true) (S : Ax N ps scope)
  (len : ∀ vs H Q E,sp vs H Q E -> vs.length = ps.length)
  (hbody : ∀ (A : Around) (outer : List Env) (s : Shared) (H : Hp) (vs : List V) (Q : VK) (E : XK), AX k (A.deeper (envOfC qual scope s.heap.objs.size f cdv)) -> sp vs H Q E ->
   ∃ t,PSs (BK CX P w K mg base N qual scope f cdv A outer s H E) body t /\ t { nx := fun _ H' => Q .non H',rt := Q } (start N vs) H) :
  Cw P w K mg base CX (k + 1) f (PySem.W.fnOf name qual params body scope dV kV doc pm an cdv ct) ps sp := by
 refine ⟨len,fun A outer s H args us vs Q E hr e0 hb r hsp => ?_⟩
 have hl := len _ _ _ _ hsp
 have KX : K.In s.heap := e0.mod.kin.keeps fun b o e => (e0.bs b o e).1
 have lim : s.heap.NoLimit := e0.mod.nolimit.keeps fun b o e => (e0.bs b o e).1
 have hkind : ∀ y ∈ ps.zip us,scope.names.lookup y.1 = some .local \/ (scope.names.lookup y.1 = some .cell /\ ((cellsFrom (s.heap.objs.size + 1) scope.names []).lookup y.1).isSome = true) := fun ⟨n,v⟩ hy => by
  rcases S.par n (List.of_mem_zip hy).1 with q | q
  ·exact .inl q
  ·exact .inr ⟨q,PySem.W.cellsFrom_some _ _ _ (.inl q)⟩
 refine codeAny_call_function hr.depth (KX _ _ lk) rfl S.co S.gen rfl (PySem.W.codeRec_of KX hcd) (hb _ _ _ _ ?_)
 refine wpAny_newFunctionEnv_cells S.kind hkind fun env he s1 x => ?_
 subst he
 refine ⟨lim.keeps x.toInCall.keep,codeAny_func ?_⟩
 obtain ⟨t,ht,hq⟩ := hbody A outer s H vs Q E (hr.deeper _) hsp
 have I : Ac (BK CX P w K mg base N qual scope f cdv A outer s H E) [] (start N vs) H s1 := I9 S hr.hd e0 hl r x
 refine wpAny_mono (ht [] s1 (start N vs) H _ I hq) (fun fl s' hs => ?_) fun e s' hs => hs
 have fin : ∀ {σ' : St} {H' : Hp} {v : V} {u : Value},Ac (BK CX P w K mg base N qual scope f cdv A outer s H E) [] σ' H' s' -> Aw v u -> Q v H' -> CE outer P w H s Q u s' :=
  fun {σ' H' v u} J rv q => ⟨v,H',J.os,J.bare,J.base,J.hok,rv,q⟩
 cases fl with
 | ret u =>
  obtain ⟨v,σ',H',J,rv,q⟩ := hs
  exact fin J rv q
 | next =>
  obtain ⟨σ',H',J,q⟩ := hs
  exact fin (v := V.non) (u := Value.none) J rfl q
 | brk =>
  obtain ⟨_,_,_,q⟩ := hs
  exact False.elim q
 | cont =>
  obtain ⟨_,_,_,q⟩ := hs
  exact False.elim q
end L2
namespace L2
open PySem PySem.Spec PyProof.Rows
section
variable {X : Cx} {x : Str} {p pos : Pos} {e : Expr} {es : List Expr} {t : TA} {id T : String} {r : List V -> Hp -> VK -> Prop}
def Ja (r : List V -> Hp -> VK -> Prop) (t : TA) : TE := fun σ H Q => t σ H fun vs H1 => r vs H1 Q
theorem AC (hc : Bu X (.builtin id) r) (hg : Gl X x) (hm : X.mg x = none) (hv : bootBuiltins x = some (.builtin id)) (ha : PA X (e :: es) t) (hn : x ≠ "__name__" := by decide) (hdb : (x == ("__debug__" : Str)) = false := by decide)
  (he : starEach (e :: es) X.env = (false,eval e X.env) :: starEach es X.env := by rfl) (hpl : (backTo pos (starEach es X.env)).any (·.1) = false := by rfl) : PE X (.Call (.Name x p) (e :: es) [] pos) (Ja r t) := by
 intro pins s σ H Q I h
 refine wpAny_Call_Name_kw (Cq I hg hm hv ?_ hn hdb)
 exact PyProof.Rows.callWith_builtin1 (Ar (ha pos pins s σ H _ I h) fun us s1 ⟨vs,H1,I1,r1,q1⟩ => hc pins s1 σ H1 vs us Q I1 r1 q1) he hpl
theorem BL (hc : Bu X (.type T) r) (hg : Gl X x) (hm : X.mg x = none) (hv : bootBuiltins x = some (.type T)) (ha : PA X (e :: es) t) (hn : x ≠ "__name__" := by decide) (hdb : (x == ("__debug__" : Str)) = false := by decide)
  (he : starEach (e :: es) X.env = (false,eval e X.env) :: starEach es X.env := by rfl) (hpl : (backTo pos (starEach es X.env)).any (·.1) = false := by rfl) : PE X (.Call (.Name x p) (e :: es) [] pos) (Ja r t) := by
 intro pins s σ H Q I h
 refine wpAny_Call_Name_kw (Cq I hg hm hv ?_ hn hdb)
 exact PyProof.Rows.callWith_type1 (Ar (ha pos pins s σ H _ I h) fun us s1 ⟨vs,H1,I1,r1,q1⟩ => hc pins s1 σ H1 vs us Q I1 r1 q1) he hpl
end
end L2
namespace HT
open PySem PyProof.Rows
variable {sl : Addr} {vl vu : Value}
section
open PySem.SeqAt
open PySem.AutoSeq1 (wpAny_loadPart')
open PySem.MeetsSeq PySem.MeetsSeq2 PySem.MeetsSeq3
end
section
variable {prog : Program} {w : World} {A : Around} {E : Value -> Shared -> Prop} {s : Shared}
def sIx (n d : Nat) : Option Int -> Nat
 | none => d
 | some v => if v < 0 then (v + (n : Int)).toNat else min v.toNat n
theorem sIx_nat (n d k : Nat) : sIx n d (some (k : Int)) = min k n := by
 show (if (k : Int) < 0 then ((k : Int) + (n : Int)).toNat else min (k : Int).toNat n) = min k n
 rw [if_neg (by omega),Int.toNat_natCast]
theorem LZ (n d : Nat) (hd : d <= n) (o : Option Int) : sIx n d o <= n := by
 cases o with
 | none => exact hd
 | some v =>
  show (if v < 0 then (v + (n : Int)).toNat else min v.toNat n) <= n
  by_cases hv : v < 0
  ·rw [if_pos hv]; omega
  ·rw [if_neg hv]; exact Nat.min_le_right _ _
theorem Jb (v : Int) (n d : Nat) : (if v < 0 then max (v + (n : Int)) 0 else min v (n : Int)) = ((sIx n d (some v) : Nat) : Int) := by
 show (if v < 0 then max (v + (n : Int)) 0 else min v (n : Int)) = (((if v < 0 then (v + (n : Int)).toNat else min v.toNat n) : Nat) : Int)
 by_cases hv : v < 0
 ·simp only [if_pos hv]; omega
 ·simp only [if_neg hv]; omega
theorem L5 (lo hi : Option Int) (n : Nat) : Builtin.Slice.sliceAdjust lo hi 1 (n : Int) = (((sIx n 0 lo : Nat) : Int),((sIx n n hi : Nat) : Int)) := by
 have h1 : ¬ ((1 : Int) < 0) := by omega
 unfold Builtin.Slice.sliceAdjust
 simp only [h1,if_false]
 refine Prod.ext ?_ ?_
 ·cases lo with
  | none => rfl
  | some v => exact Jb v n 0
 ·cases hi with
  | none => rfl
  | some v => exact Jb v n n
theorem L8 (i j : Nat) : Builtin.Slice.slicePlaces (i : Int) (j : Int) 1 = j - i := by
 unfold Builtin.Slice.slicePlaces
 have h1 : (1 : Int) > 0 := by omega
 simp only [h1,if_true,Int.ediv_one]
 split <;> omega
theorem Jc {v : Value} {o : Option Int} {Q : Option Int -> Shared -> Prop} (p : IsPart v o) (h : Q o s) : wpAny (model prog w) A (Builtin.Slice.slicePartIndex v) Q E s := by
 cases p with
 | none => exact slicePart_none h
 | int i t => exact slicePart_int h
theorem sliceApplied_gen {lo hi : Option Int} {n : Nat} {Q : Int × Int × Nat -> Shared -> Prop} (hs : s.heap.IsSliceOf sl vl vu .none) (pl : IsPart vl lo) (pu : IsPart vu hi)
  (h : Q (((sIx n 0 lo : Nat) : Int),1,sIx n n hi - sIx n 0 lo) s) : wpAny (model prog w) A (Builtin.Slice.sliceApplied (.ref sl) (pure (n : Int))) Q E s := by
 obtain ⟨os,hos,hcs,hds⟩ := id hs
 unfold Builtin.Slice.sliceApplied Builtin.Slice.sliceFields
 refine wpAny_bind (wpAny_bind (wpAny_field hos hds (x := vl) rfl (wpAny_bind (wpAny_field hos hds (x := vu) rfl (wpAny_bind (wpAny_field hos hds (x := .none) rfl (wpAny_pure ?_)))))))
 refine wpAny_bind (slicePart_none ?_)
 show wpAny _ _ (if ((1 : Int) == 0) = true then _ else _) _ _ s
 rw [if_neg (by decide)]
 refine wpAny_bind (Jc pl (wpAny_bind (Jc pu (wpAny_bind (wpAny_pure ?_)))))
 show wpAny _ _ (match Builtin.Slice.sliceAdjust lo hi 1 (n : Int) with | (lo,hi) => pure (lo,(1 : Int),Builtin.Slice.slicePlaces lo hi 1)) _ _ s
 rw [L5 lo hi n]
 show wpAny _ _ (pure (((sIx n 0 lo : Nat) : Int),(1 : Int),Builtin.Slice.slicePlaces ((sIx n 0 lo : Nat) : Int) ((sIx n n hi : Nat) : Int) 1)) _ _ s
 rw [L8]
 exact wpAny_pure h
theorem L9 (xs : Array Value) (i k : Nat) : ((List.range k).filterMap fun (m : Nat) => xs[((i : Int) + (m : Int) * 1).toNat]?).toArray = ((xs.toList.drop i).take k).toArray := by
 have e : (fun (m : Nat) => xs[((i : Int) + (m : Int) * 1).toNat]?) = fun m => xs[i + m]? := by
  funext m
  have : ((i : Int) + (m : Int) * 1).toNat = i + m := by omega
  rw [this]
 rw [e]
 have := pick_run xs i k
 rw [List.filterMap_map] at this
 have e2 : ((fun x => xs[x]?) ∘ fun x => i + x) = fun m => xs[i + m]? := rfl
 rw [e2] at this
 rw [this]
theorem getItem_tuple_cut {t : Addr} {items : Array Value} {lo hi : Option Int} {Q : Value -> Shared -> Prop} (ht : IsTup s.heap t items) (hs : s.heap.IsSliceOf sl vl vu .none) (pl : IsPart vl lo) (pu : IsPart vu hi)
  (hw : ¬ (sIx items.size 0 lo = 0 /\ sIx items.size items.size hi = items.size))
  (h : Q (.ref s.heap.objs.size) { s with heap := s.heap.push { cls := .type "tuple",data := .seq ((items.toList.drop (sIx items.size 0 lo)).take (sIx items.size items.size hi - sIx items.size 0 lo)).toArray } })
  (hsz : items.size <= sizeLine) : wpAny (model prog w) A (getItem (.ref t) (.ref sl)) Q E s := by
 have htake : sizeOk (.seq ((items.toList.drop (sIx items.size 0 lo)).take (sIx items.size items.size hi - sIx items.size 0 lo)).toArray) := by
  show ((items.toList.drop (sIx items.size 0 lo)).take (sIx items.size items.size hi - sIx items.size 0 lo)).toArray.size <= sizeLine
  rw [List.size_toArray,List.length_take,List.length_drop,Array.length_toList]
  omega
 have hj : sIx items.size items.size hi <= items.size := LZ _ _ (Nat.le_refl _) hi
 obtain ⟨os,hos,hcs,hds⟩ := id hs
 have hTs : s.TypeIs (.ref sl) "slice" := ⟨os,hos,hcs⟩
 unfold getItem
 try with_reducible refine wpAny_holding ?_
 first | refine wpAny_bind (wpAny_pure ?_) | skip
 refine wpAny_bind (wpAny_sequenceKey ht.typeIs (by decide) ?_)
 refine wpAny_bind (wpAny_callSpecial?_slot (name := Str.ofString "__getitem__") ht.typeIs PyProof.Rows.slot_tuple_getitem
  (wpAny_call_entry PyProof.Rows.slot_tuple_getitem ht.typeIs entry_tuple_getitem ?_ (args_tuple_getitem _ _)))
 show wpAny _ _ (Builtin.Tuple.tupleItemsOf (.ref t) >>= _) _ _ s
 refine wpAny_bind (tupleItemsOf_ ht ?_)
 refine wpAny_bind (wpAny_typeOf hTs ?_)
 rw [if_pos (by decide)]
 refine wpAny_bind (sliceApplied_gen hs pl pu ?_)
 have hno : ¬ ((((sIx items.size 0 lo : Nat) : Int) == 0 && (1 : Int) == 1 && (sIx items.size items.size hi - sIx items.size 0 lo) == items.size) = true) := by
  intro q
  rw [Bool.and_eq_true,Bool.and_eq_true] at q
  have q1 : ((sIx items.size 0 lo : Nat) : Int) = 0 := eq_of_beq q.1.1
  have q2 : sIx items.size items.size hi - sIx items.size 0 lo = items.size := eq_of_beq q.2
  exact hw ⟨by omega,by omega⟩
 show wpAny _ _ (if (((sIx items.size 0 lo : Nat) : Int) == 0 && (1 : Int) == 1 && (sIx items.size items.size hi - sIx items.size 0 lo) == items.size) = true then _ else _) _ _ s
 rw [if_neg hno,L9]
 first
  | exact wpAny_bind (m := Builtin.Tuple.tupleExact _) (wpAny_newObj_type (wpAny_pure ⟨_,rfl,wpAny_pure h⟩) htake)
  | exact wpAny_bind (m := Builtin.Tuple.tupleExact _) (wpAny_newObj_type (wpAny_bind (wpAny_pure (wpAny_pure ⟨_,rfl,wpAny_pure h⟩))) htake)
  | exact wpAny_bind (wpAny_bind (m := Builtin.Tuple.tupleExact _) (wpAny_newObj_type (wpAny_pure (wpAny_pure ⟨_,rfl,wpAny_pure h⟩)) htake))
  | exact wpAny_bind (wpAny_bind (m := Builtin.Tuple.tupleExact _) (wpAny_newObj_type (wpAny_pure ⟨_,rfl,wpAny_pure h⟩) htake))
end
end HT
namespace L2
open PySem PySem.Spec PyProof.Rows
abbrev TO := St -> Hp -> (Option Int -> Hp -> Prop) -> Prop
def PO (X : Cx) (e : Option Expr) (t : TO) : Prop :=
 ∀ (pins : List (Addr × Obj)) (s : Shared) (σ : St) (H : Hp) (Q : Option Int -> Hp -> Prop),Ac X pins σ H s -> t σ H Q ->
  wpAny (model X.prog X.w) X.A (evalPart e X.env) (fun u s' => ∃ o H',Ac X pins σ H' s' /\ IsPart u o /\ Q o H') X.xe s
def Ma : TO := fun _ H Q => Q none H
def Mb (t : TE) : TO := fun σ H Q => t σ H fun x H1 => ∃ i,x = .int i /\ Q (some i) H1
section
variable {X : Cx} {e : Expr} {te : TE} {lo hi : Option Expr} {tl th : TO} {pos p2 : Pos}
theorem C9 : PO X none Ma := by
 intro pins s σ H Q I h
 rw [evalPart_none]
 exact wpAny_pure ⟨none,H,I,.none,h⟩
theorem BU (h : PE X e te) : PO X (some e) (Mb te) := by
 intro pins s σ H Q I hw
 rw [evalPart_some]
 refine Ar (h pins s σ H _ I hw) fun u s1 ⟨x,H1,I1,r1,q1⟩ => ?_
 obtain ⟨i,rfl,q⟩ := q1
 obtain ⟨t,rfl⟩ := r1
 exact ⟨some i,H1,I1,.int i t,q⟩
def Fa (X : Cx) (r : V -> Option Int -> Option Int -> Hp -> VK -> Prop) : Prop :=
 ∀ (pins : List (Addr × Obj)) (s : Shared) (σ : St) (H : Hp) (x : V) (v vl vu : Value) (lo hi : Option Int) (sl : Addr) (Q : VK),Ac X pins σ H s -> Aw x v -> s.heap.IsSliceOf sl vl vu .none -> IsPart vl lo -> IsPart vu hi -> r x lo hi H Q ->
  ∃ T id,typeLookup (.type T) "__getitem__" = pure (some (.builtin id)) /\ s.TypeIs v T /\ wpAny (model X.prog X.w) X.A (getItem v (.ref sl)) (EP X pins σ Q) X.xe s
def Mc (r : V -> Option Int -> Option Int -> Hp -> VK -> Prop) (te : TE) (tl th : TO) : TE := fun σ H Q => te σ H fun x H1 => tl σ H1 fun l H2 => th σ H2 fun u H3 => r x l u H3 Q
theorem Cy {r : V -> Option Int -> Option Int -> Hp -> VK -> Prop} (hr : Fa X r) (he : PE X e te) (hl : PO X lo tl) (hu : PO X hi th) : PE X (.Subscript e (.Slice lo hi none p2) pos) (Mc r te tl th) := by
 intro pins s σ H Q I h
 refine Subscript_ (Ar (he pins s σ H _ I h) fun v s1 ⟨x,H1,I1,r1,q1⟩ => ?_)
 refine wpAny_Slice (Ar (hl pins s1 σ H1 _ I1 q1) fun vl s2 ⟨l,H2,I2,pl,q2⟩ => Ar (hu pins s2 σ H2 _ I2 q2) fun vu s3 ⟨u,H3,I3,pu,q3⟩ => ?_)
 rw [evalPart_none]
 refine wpAny_pure ?_
 have I4 : Ac X pins σ H3 { s3 with heap := s3.heap.push { cls := .type "slice",data := .fields #[vl,vu,.none] } } := I3.kept (t' := s3.toks) fun b ob q => Heap.get?_push_of_some _ q
 obtain ⟨T,id,hT,ht,hg⟩ := hr pins { s3 with heap := s3.heap.push { cls := .type "slice",data := .fields #[vl,vu,.none] } } σ H3 x v vl vu l u s3.heap.objs.size Q I4 r1 (Heap.IsSliceOf.new ..) pl pu q3
 show wpAny (model X.prog X.w) X.A (subscriptTail e (.Slice lo hi none p2) v (.ref s3.heap.objs.size)) (EP X pins σ Q) X.xe { s3 with heap := s3.heap.push { cls := .type "slice",data := .fields #[vl,vu,.none] } }
 exact tail_any (ops := [.ref s3.heap.objs.size,v]) ht hT hg (by with_unfolding_all rfl)
def Bh (xs : List V) (lo hi : Option Int) : List V := (xs.drop (HT.sIx xs.length 0 lo)).take (HT.sIx xs.length xs.length hi - HT.sIx xs.length 0 lo)
theorem Fb (xs : List V) (lo hi : Option Int) : (Bh xs lo hi).length <= xs.length := by
 unfold Bh
 rw [List.length_take,List.length_drop]
 omega
end
end L2
namespace L2
open PySem PySem.Spec PyProof.Rows
variable {n j : Nat} {i : Int} {α : Type} {xs : List α} {v u : Value} {pins : List (Addr × Obj)} {σ : St} {H : Hp} {s : Shared} {p : Addr} {y : V}
def Du (n : Nat) (i : Int) : Option Nat := if 0 <= i then (if i < n then some i.toNat else none) else if -(n : Int) <= i then some (i + n).toNat else none
def Ce {α : Type} (xs : List α) (i : Int) : Option α := (Du xs.length i).bind fun j => xs[j]?
theorem Jd (h : Du n i = some j) : seqIndex? i n = some j /\ j < n /\ -(n : Int) <= i /\ i < n := by
 unfold Du at h
 by_cases h0 : 0 <= i
 ·rw [if_pos h0] at h
  by_cases h1 : i < n
  ·rw [if_pos h1] at h
   have e : i.toNat = j := Option.some.inj h
   exact ⟨by rw [seqIndex_of h0 h1,e],by omega,by omega,h1⟩
  ·rw [if_neg h1] at h; cases h
 ·rw [if_neg h0] at h
  by_cases h1 : -(n : Int) <= i
  ·rw [if_pos h1] at h
   have e : (i + n).toNat = j := Option.some.inj h
   exact ⟨by rw [seqIndex_neg (by omega) h1,e],by omega,h1,by omega⟩
  ·rw [if_neg h1] at h; cases h
theorem Je {v : α} (h : Ce xs i = some v) : ∃ j,seqIndex? i xs.length = some j /\ xs[j]? = some v /\ j < xs.length /\ -(xs.length : Int) <= i /\ i < xs.length := by
 unfold Ce at h
 cases e : Du xs.length i with
 | none => rw [e] at h; cases h
 | some j =>
  rw [e] at h
  obtain ⟨h1,h2,h3,h4⟩ := Jd e
  exact ⟨j,h1,h,h2,h3,h4⟩
theorem Dv {v : α} (h : xs[j]? = some v) : Ce xs (j : Int) = some v := by
 have hj : j < xs.length := (List.getElem?_eq_some_iff.mp h).1
 have e : Du xs.length (j : Int) = some j := by
  unfold Du
  rw [if_pos (by omega),if_pos (by omega)]; simp
 unfold Ce; rw [e]; exact h
def Md (b : Expr) : Prop := ∀ o i,subscripted b false o i = operate [o,i] (getItem o i)
def EB (X : Cx) (r : R2) : Prop :=
 ∀ (value slice : Expr) (pins : List (Addr × Obj)) (s : Shared) (σ : St) (H : Hp) (x y : V) (v u : Value) (Q : VK),Ac X pins σ H s -> Aw x v -> Aw y u -> r x y H Q ->
  subscripted slice false v u = operate [v,u] (getItem v u) -> wpAny (model X.prog X.w) X.A (subscriptTail value slice v u) (EP X pins σ Q) X.xe s
def Fc (X : Cx) (id : String) (r : V -> List V -> Hp -> VK -> Prop) : Prop :=
 ∀ (pins : List (Addr × Obj)) (s : Shared) (σ : St) (H : Hp) (x : V) (xs : List V) (v : Value) (us : List Value) (Q : VK),Ac X pins σ H s -> Aw x v -> At xs us -> r x xs H Q ->
  wpAny (model X.prog X.w) X.A (call (.builtin id) (v :: us)) (EP X pins σ Q) X.xe s
section
variable {X : Cx} {a b : Expr} {ta tb : TE} {pos : Pos}
theorem AD {r : R2} (hr : EB X r) (ha : PE X a ta) (hb : PE X b tb) (hs : Md b) : PE X (.Subscript a b pos) (Ez r ta tb) := by
 intro pins s σ H Q I h
 exact Subscript_ (GO ha hb I h fun v u s2 x y H2 I2 rx ry q => hr a b pins s2 σ H2 x y v u Q I2 rx ry q (hs _ _))
def GU (K : PySem.W.Frag) : R2 := fun x y H Q => ∃ p xs i v,x = .ref p /\ y = .int i /\ Am K H p xs /\ Ce xs i = some v /\ Q v H
def Jf (K : PySem.W.Frag) : R2 := fun x y H Q => ∃ p xs i v,x = .ref p /\ y = .int i /\ Af K H p xs /\ Ce xs i = some v /\ Q v H
theorem Me : EB X (GU X.K) := by
 intro value slice pins s σ H x y v u Q I rx ry h hs
 obtain ⟨p,xs,i,z,rfl,rfl,hq,he,q⟩ := h
 cases rx
 obtain ⟨t,rfl⟩ := ry
 obtain ⟨its,r,pl,hz⟩ := I.list hq
 obtain ⟨j,h1,h2,h3,h4,h5⟩ := Je he
 obtain ⟨w,ew,rw'⟩ := r.get h2
 have hl := r.length
 have hn := E8
 have fin : EP X pins σ Q w s := ⟨z,H,I,rw',q⟩
 by_cases h0 : 0 <= i
 ·have hj : i.toNat = j := by
   rw [seqIndex_of h0 h5] at h1
   exact Option.some.inj h1
  exact item_listR pl.isList h0 (by omega) (by rw [hj]; simpa using ew) fin hs
 ·have hj : (i + (its.toArray.size : Int)).toNat = j := by
   rw [seqIndex_neg (by omega) h4] at h1
   rw [List.size_toArray,<- hl]
   exact Option.some.inj h1
  exact subscriptTail_builtinR (x := w) pl.isList.typeIs slot_list_getitem.lookup
   (wpAny_getItem_list_neg (Q := fun r s' => r = w /\ EP X pins σ Q r s') pl.isList (by omega) (by rw [List.size_toArray] <;> omega) (by omega) (by rw [hj]; simpa using ew) ⟨rfl,fin⟩) hs
theorem Mf : EB X (Jf X.K) := by
 intro value slice pins s σ H x y v u Q I rx ry h hs
 obtain ⟨p,xs,i,z,rfl,rfl,hq,he,q⟩ := h
 cases rx
 obtain ⟨t,rfl⟩ := ry
 obtain ⟨its,r,pl,hz⟩ := I.tuple hq
 obtain ⟨j,h1,h2,h3,h4,h5⟩ := Je he
 obtain ⟨w,ew,rw'⟩ := r.get h2
 have hl := r.length
 have hn := E8
 have fin : EP X pins σ Q w s := ⟨z,H,I,rw',q⟩
 exact subscriptTail_builtinR (x := w) pl.typeIs slot_tuple_getitem.lookup
  (getItem_tuple (j := j) (Q := fun r s' => r = w /\ EP X pins σ Q r s') pl (by omega) (by omega) (by rw [List.size_toArray,<- hl]; exact h1) (by simpa using ew) ⟨rfl,fin⟩) hs
theorem Mg (its : List Value) (n j : Nat) (u : Value) : Obj.mapSeq (·.setIfInBounds j u) { cls := .type "list",data := .seq its.toArray n } = { cls := .type "list",data := .seq (its.set j u).toArray n } := by
 simp [Obj.mapSeq]
theorem Ac.lst {xs : List V} (I : Ac X pins σ H s) (h : H p = some (.lst xs)) :
  ∃ (its : List Value) (n : Nat),At xs its /\ s.heap.get? p = some { cls := .type "list",data := .seq its.toArray n } /\ xs.length <= sizeLine := by
 obtain ⟨z,its,n,r,e⟩ := I.hok p _ h
 exact ⟨its,n,r,e,z⟩
theorem Ac.lstUpd {xs ys : List V} {its its' : List Value} {n' : Nat} {f : Obj -> Obj} (I : Ac X pins σ H s) (h : H p = some (.lst xs))
  (ho : s.heap.get? p = some { cls := .type "list",data := .seq its.toArray n }) (hf : f { cls := .type "list",data := .seq its.toArray n } = { cls := .type "list",data := .seq its'.toArray n' }) (r : At ys its') (hz : ys.length <= sizeLine) (t : Nat) :
  Ac X pins σ (upd H p (.lst ys)) { s with heap := s.heap.update p f,toks := t } := by
 have e : (s.heap.update p f).get? p = some { cls := .type "list",data := .seq its'.toArray n' } := by
  rw [Heap.get?_update_self f ho (by rw [hf] <;> rfl),hf]
 refine I.write (x := p) (e := p) (by rw [h]; trivial) (.inl rfl) (fun b u hb q => (Heap.get?_update_other _ _ (Ne.symm hb)).trans q) ⟨_,e⟩ ?_
 exact ⟨hz,its',n',r,e⟩
def Mh : V -> V -> V -> Hp -> (Hp -> Prop) -> Prop := fun o i v H Q => ∃ p xs k j,o = .ref p /\ i = .int k /\ H p = some (.lst xs) /\ Du xs.length k = some j /\ Q (upd H p (.lst (xs.set j v)))
theorem Jg : IA X Mh := by
 intro pins s σ H o i v ov iv u Q I ro ri rv h
 obtain ⟨p,xs,k,j,rfl,rfl,hp,hj,q⟩ := h
 cases ro
 obtain ⟨t,rfl⟩ := ri
 obtain ⟨its,n,r,ho,hz⟩ := I.lst hp
 obtain ⟨h1,h2,h3,h4⟩ := Jd hj
 have hl := r.length
 have hn := E8
 have I' : Ac X pins σ (upd H p (.lst (xs.set j v))) { s with heap := s.heap.update p (Obj.mapSeq (·.setIfInBounds j u)) } :=
  I.lstUpd hp ho (Mg its n j u) (r.set rv j) (by rw [List.length_set]; exact hz) s.toks
 by_cases h0 : 0 <= k
 ·have hk : k.toNat = j := by
   rw [seqIndex_of h0 h4] at h1
   exact Option.some.inj h1
  exact PySem.W.ki_setAt ho h0 (by omega) (by rw [List.size_toArray,<- hl]; exact h4) (by rw [hk]; exact ⟨_,I',q⟩)
 ·have hk : (k + (its.toArray.size : Int)).toNat = j := by
   rw [seqIndex_neg (by omega) h3] at h1
   rw [List.size_toArray,<- hl]
   exact Option.some.inj h1
  exact PySem.W.ki_setBack ho (by omega) (by rw [List.size_toArray,<- hl]; exact h3) (by omega) (by rw [hk]; exact ⟨_,I',q⟩)
theorem Mi (lo hi : Option Int) (n : Nat) : (sliceBounds lo hi none n).1 = ((HT.sIx n 0 lo : Nat) : Int) /\ (sliceBounds lo hi none n).2.1 = ((HT.sIx n n hi : Nat) : Int) /\ (sliceBounds lo hi none n).2.2 = 1 := by
 refine ⟨?_,?_,rfl⟩
 ·cases lo with
  | none => simp [sliceBounds,HT.sIx]
  | some i =>
   simp only [sliceBounds,HT.sIx,Option.getD_none,show (1 : Int) > 0 by decide,if_true]
   by_cases h : i < 0
   ·simp only [h,if_true] <;> omega
   ·simp only [h,if_false] <;> omega
 ·cases hi with
  | none => simp [sliceBounds,HT.sIx]
  | some i =>
   simp only [sliceBounds,HT.sIx,Option.getD_none,show (1 : Int) > 0 by decide,if_true]
   by_cases h : i < 0
   ·simp only [h,if_true] <;> omega
   ·simp only [h,if_false] <;> omega
theorem Mj (its : List Value) (lo hi : Option Int) : slicePick its.toArray lo hi none = ((its.drop (HT.sIx its.length 0 lo)).take (HT.sIx its.length its.length hi - HT.sIx its.length 0 lo)).toArray := by
 obtain ⟨h1,h2,h3⟩ := Mi lo hi its.toArray.size
 unfold slicePick
 rw [h1,h2,h3]
 simp only [sliceRange_one,pick_run,List.size_toArray] <;> rfl
def Jh (K : PySem.W.Frag) : V -> Option Int -> Option Int -> Hp -> VK -> Prop := fun x lo hi H Q => ∃ a xs,x = .ref a /\ Am K H a xs /\ ∀ p,H p = none -> Q (.ref p) (upd H p (.lst (Bh xs lo hi)))
theorem Ml : Fa X (Jh X.K) := by
 intro pins s σ H x v vl vu lo hi sl Q I rx hs pl pu h
 obtain ⟨a,xs,rfl,hx,q⟩ := h
 cases rx
 obtain ⟨its,r,ht,hz⟩ := I.list hx
 have hlen := r.length
 refine ⟨"list",_,slot_list_getitem.lookup,ht.isList.typeIs,?_⟩
 refine wpAny_getItem_list_slice ht.isList hs pl pu .none (by simp) ?_ (by rw [List.size_toArray] <;> omega)
 rw [Mj,<- hlen]
 refine ⟨.ref s.heap.objs.size,_,I.laid (t' := s.toks) (o := .lst (Bh xs lo hi)) (fun b ob q => Heap.get?_push_of_some _ q) (Nat.le_refl _) ?_,rfl,q _ (I.hok.fresh (Nat.le_refl _))⟩
 exact ⟨Nat.le_trans (Fb xs lo hi) hz,_,0,(r.drop (HT.sIx xs.length 0 lo)).take (HT.sIx xs.length xs.length hi - HT.sIx xs.length 0 lo),Heap.get?_push_size _ rfl⟩
def CN : V -> Bool
 | .non => true
 | .bl _ => true
 | .int _ => true
 | .str _ => true
 | _ => false
def CO : V -> V -> Bool
 | .non,.non => true
 | .bl a,.bl b => a == b
 | .bl a,.int b => (if a then 1 else 0) == b
 | .int a,.bl b => a == (if b then 1 else 0)
 | .int a,.int b => a == b
 | .str a,.str b => a == b
 | _,_ => false
theorem Mm {A : Around} {x : V} (ry : Aw y u) (rx : Aw x v) (fy : CN y = true) (fx : CN x = true) : SeqAt.EqAt A s u v (CO y x) := by
 cases y with
 | non =>
  cases ry
  cases x with
  | non => cases rx; exact SeqAt.EqAt.same _
  | bl b => cases rx; exact SeqAt.EqAt.none_bool b
  | int b => obtain ⟨t,rfl⟩ := rx; exact SeqAt.EqAt.none_int b t
  | str b => obtain ⟨t,rfl⟩ := rx; exact SeqAt.EqAt.none_str b t
  | _ => exact absurd (show false = true from fx) Bool.false_ne_true
 | bl a =>
  cases ry
  cases x with
  | non => cases rx; exact SeqAt.EqAt.bool_none a
  | bl b => cases rx; exact SeqAt.EqAt.bool_bool a b
  | int b => obtain ⟨t,rfl⟩ := rx; exact SeqAt.EqAt.bool_int a b t
  | str b => obtain ⟨t,rfl⟩ := rx; exact SeqAt.EqAt.bool_str a b t
  | _ => exact absurd (show false = true from fx) Bool.false_ne_true
 | int a =>
  obtain ⟨t',rfl⟩ := ry
  cases x with
  | non => cases rx; exact SeqAt.EqAt.int_none a t'
  | bl b => cases rx; exact SeqAt.EqAt.int_bool a t' b
  | int b => obtain ⟨t,rfl⟩ := rx; exact SeqAt.EqAt.int_int a t' b t
  | str b => obtain ⟨t,rfl⟩ := rx; exact SeqAt.EqAt.int_str a t' b t
  | _ => exact absurd (show false = true from fx) Bool.false_ne_true
 | str a =>
  obtain ⟨t',rfl⟩ := ry
  cases x with
  | non => cases rx; exact SeqAt.EqAt.str_none a t'
  | bl b => cases rx; exact SeqAt.EqAt.str_bool a t' b
  | int b => obtain ⟨t,rfl⟩ := rx; exact SeqAt.EqAt.str_int a t' b t
  | str b => obtain ⟨t,rfl⟩ := rx; exact SeqAt.EqAt.str_str a t' b t
  | _ => exact absurd (show false = true from fx) Bool.false_ne_true
 | _ => exact absurd (show false = true from fy) Bool.false_ne_true
def CU (x : V) (u : Value) : Bool := match u with
 | .none => CO .non x
 | .bool b => CO (.bl b) x
 | .int i _ => CO (.int i) x
 | .str z _ => CO (.str z) x
 | _ => false
theorem Ji {x : V} (r : Aw y u) (f : CN y = true) : CU x u = CO y x := by
 cases y with
 | non => cases r; rfl
 | bl b => cases r; rfl
 | int i => obtain ⟨t,rfl⟩ := r; rfl
 | str z => obtain ⟨t,rfl⟩ := r; rfl
 | _ => exact absurd (show false = true from f) Bool.false_ne_true
theorem GV {x : V} : ∀ {xs : List V} {us : List Value},At xs us -> xs.all CN = true -> us.any (CU x) = xs.any fun y => CO y x
 | _,_,.nil,_ => rfl
 | y :: xs,u :: us,.cons r t,f => by
  rw [List.all_cons,Bool.and_eq_true] at f
  rw [List.any_cons,List.any_cons,Ji r f.1,GV t f.2]
theorem GW {A : Around} {x : V} (rx : Aw x v) (fx : CN x = true) : ∀ {xs : List V} {us : List Value},At xs us -> xs.all CN = true -> ∀ u ∈ us,SeqAt.EqAt A s u v (CU x u)
 | _,_,.nil,_ => fun u hu => by cases hu
 | y :: xs,u :: us,.cons r t,f => fun u' hu => by
  rw [List.all_cons,Bool.and_eq_true] at f
  rcases List.mem_cons.mp hu with rfl | hu
  ·rw [Ji r f.1]; exact Mm r rx f.1 fx
  ·exact GW rx fx t f.2 u' hu
def BP (x : V) (xs : List V) : Bool := xs.any fun y => CO y x
def Jj (K : PySem.W.Frag) (neg : Bool) : R2 := fun x y H Q => ∃ p xs,y = .ref p /\ (Am K H p xs \/ Af K H p xs) /\ CN x = true /\ xs.all CN = true /\ Q (.bl (if neg then !BP x xs else BP x xs)) H
theorem Mn : OpR X (compareOp .In) (Jj X.K false) := by
 intro pins s σ H x y v u Q I rx ry h
 obtain ⟨p,xs,rfl,hq,fx,fs,q⟩ := h
 cases ry
 rcases hq with hq | hq
 ·obtain ⟨its,r,pl,hz⟩ := I.list hq
  refine SeqAt.in_listAt (CU x) pl.isList (fun w hw => GW rx fx r fs w (by simpa using hw)) ⟨.bl _,H,I,rfl,?_⟩
  rw [show its.toArray.any (CU x) = its.any (CU x) by simp,GV r fs]
  exact q
 ·obtain ⟨its,r,pl,hz⟩ := I.tuple hq
  refine SeqAt.in_tupleAt (CU x) pl (fun w hw => GW rx fx r fs w (by simpa using hw)) ⟨.bl _,H,I,rfl,?_⟩
  rw [show its.toArray.any (CU x) = its.any (CU x) by simp,GV r fs]
  exact q
theorem Mo : Bu X (.builtin "len") (fun xs H Q => ∃ p ys,xs = [.ref p] /\ (Am X.K H p ys \/ Af X.K H p ys) /\ Q (.int ys.length) H) := by
 intro pins s σ H xs us Q I r h
 obtain ⟨p,ys,rfl,hq,q⟩ := h
 obtain ⟨u,rfl,rx⟩ := EA r
 cases rx
 have hn := E8
 rcases hq with hq | hq
 ·obtain ⟨its,r',pl,hz⟩ := I.list hq
  have hlen := r'.length
  exact Calls.call_len_list pl.isList (by simp only [List.size_toArray] <;> omega) ⟨.int ys.length,H,I.tok _,⟨s.toks + 1,by rw [List.size_toArray,hlen]⟩,q⟩
 ·obtain ⟨its,r',pl,hz⟩ := I.tuple hq
  have hlen := r'.length
  exact len_tuple pl (by simp only [List.size_toArray] <;> omega) ⟨.int ys.length,H,I.tok _,⟨s.toks + 1,by rw [List.size_toArray,hlen]⟩,q⟩
theorem Mp : Bu X (.type "list") (fun xs H Q => ∃ p ys,xs = [.ref p] /\ (Am X.K H p ys \/ Af X.K H p ys) /\ ∀ l,H l = none -> Q (.ref l) (upd H l (.lst ys))) := by
 intro pins s σ H xs us Q I r h
 obtain ⟨p,ys,rfl,hq,q⟩ := h
 obtain ⟨u,rfl,rx⟩ := EA r
 cases rx
 have fin : ∀ (its : List Value),At ys its -> ys.length <= sizeLine -> ∀ (h' : Heap) (c' : Nat),(∀ b o',s.heap.get? b = some o' -> h'.get? b = some o') ->
   h'.get? s.heap.objs.size = some { cls := .type "list",dict := none,data := .seq its.toArray c',slots := #[] } -> EP X pins σ Q (.ref s.heap.objs.size) { s with heap := h' } := fun its r' hz h' c' kp e =>
  ⟨.ref s.heap.objs.size,_,I.laid (t' := s.toks) kp (Nat.le_refl _) (show ObjOk X.prog X.w _ h' _ (.lst ys) from ⟨hz,its,c',r',e⟩),rfl,q _ (I.hok.fresh (Nat.le_refl _))⟩
 rcases hq with hq | hq
 ·obtain ⟨its,r',pl,hz⟩ := I.list hq
  have hlen := r'.length
  obtain ⟨o,ho,hc,n,hd⟩ := pl.isList
  exact call_list_seq p (.inl rfl) ho hc hd (fun h' c' kp e => fin its r' hz h' c' kp e) (by simp only [List.size_toArray] <;> omega)
 ·obtain ⟨its,r',pl,hz⟩ := I.tuple hq
  have hlen := r'.length
  obtain ⟨o,ho,hc,n,hd⟩ := pl
  exact call_list_seq p (.inr rfl) ho hc hd (fun h' c' kp e => fin its r' hz h' c' kp e) (by simp only [List.size_toArray] <;> omega)
theorem Mq : Bu X (.type "tuple") (fun xs H Q => ∃ p ys,xs = [.ref p] /\ ((Am X.K H p ys /\ ∀ l,H l = none -> Q (.ref l) (upd H l (.tup ys))) \/ (Af X.K H p ys /\ Q (.ref p) H))) := by
 intro pins s σ H xs us Q I r h
 obtain ⟨p,ys,rfl,h⟩ := h
 obtain ⟨u,rfl,rx⟩ := EA r
 cases rx
 rcases h with ⟨hq,q⟩ | ⟨hq,q⟩
 ·obtain ⟨its,r',pl,hz⟩ := I.list hq
  have hlen := r'.length
  refine call_tuple_list pl.isList (fun h' kp => ?_) (by simp only [List.size_toArray] <;> omega)
  have I1 : Ac X pins σ H { s with heap := h' } := I.kept (t' := s.toks) kp
  have I2 : Ac X pins σ (upd H h'.objs.size (.tup ys)) { s with heap := h'.push { cls := .type "tuple",data := .seq its.toArray } } :=
   I1.laid (t' := s.toks) (fun b o e => Heap.get?_push_of_some _ e) (Nat.le_refl _) (show ObjOk X.prog X.w _ _ _ (.tup ys) from ⟨hz,its,r',IsTup.new _ _⟩)
  exact ⟨.ref h'.objs.size,_,I2,rfl,q _ (I1.hok.fresh (Nat.le_refl _))⟩
 ·obtain ⟨its,r',pl,hz⟩ := I.tuple hq
  exact call_tuple_same pl ⟨.ref p,H,I,rfl,q⟩
def Jk (K : PySem.W.Frag) (T : String) (x : V) (H : Hp) : Prop := match x with
 | .str _ => T = "str"
 | .int _ => T = "int"
 | .ref p => (T = "list" /\ ∃ xs, Am K H p xs) \/ (T = "tuple" /\ ∃ o, K.lookup p = some o /\ o.cls = .type "tuple" /\ o.dict = none) \/
   (T = "dict" /\ ((∃ kvs,H p = some (.dK kvs)) \/ ∃ kvs,H p = some (.dT kvs))) \/ (T = "set" /\ ∃ S n,H p = some (.set S n))
 | _ => False
theorem Mr {T : String} {x : V} (I : Ac X pins σ H s) (r : Aw x v) (ty : Jk X.K T x H) :
  s.TypeIs v T /\ ∀ a,v = .ref a -> ∃ ob,s.heap.get? a = some ob /\ ob.dict = none := by
 cases x with
 | str z =>
  obtain ⟨t,rfl⟩ := r
  cases (show T = "str" from ty)
  exact ⟨typeIs_str s z t,fun _ e => nomatch e⟩
 | int i =>
  obtain ⟨t,rfl⟩ := r
  cases (show T = "int" from ty)
  exact ⟨typeIs_int s i t,fun _ e => nomatch e⟩
 | ref p =>
  cases r
  rcases ty with ⟨rfl,xs,hq⟩ | ⟨rfl,o,hk,hc,hd⟩ | ⟨rfl,hk⟩ | ⟨rfl,S,n,hk⟩
  ·obtain ⟨its,_,pl,_⟩ := I.list hq
   refine ⟨pl.isList.typeIs,fun a e => ?_⟩
   cases e
   obtain ⟨o,n,e,c,hd,_⟩ := pl
   exact ⟨o,e,hd⟩
  ·refine ⟨⟨o,I.kIn p o hk,hc⟩,fun a e => ?_⟩
   cases e
   exact ⟨o,I.kIn _ o hk,hd⟩
  ·have z : ∃ o,s.heap.get? p = some o /\ o.ExactDict := by
    rcases hk with ⟨kvs,hk⟩ | ⟨kvs,hk⟩
    ·obtain ⟨_,_,_,_,o,_,_,e,ex,_⟩ := I.hok p _ hk
     exact ⟨o,e,ex⟩
    ·obtain ⟨_,_,_,_,o,_,_,e,ex,_⟩ := I.hok p _ hk
     exact ⟨o,e,ex⟩
   obtain ⟨o,e,ex⟩ := z
   refine ⟨⟨o,e,ex.1⟩,fun a e2 => ?_⟩
   cases e2
   exact ⟨o,e,ex.2.1⟩
  ·obtain ⟨o,_,_,_,e,ex,_⟩ := I.hok p _ hk
   refine ⟨⟨o,e,ex.1⟩,fun a e2 => ?_⟩
   cases e2
   exact ⟨o,e,ex.2.1⟩
 | _ => exact False.elim ty
def GX (K : PySem.W.Frag) (T : String) (r : V -> List V -> Hp -> VK -> Prop) (to : TE) (t : TA) : TE := fun σ H Q => to σ H fun x H1 => Jk K T x H1 /\ t σ H1 fun xs H2 => r x xs H2 Q
variable {o e : Expr} {es : List Expr} {to : TE} {t : TA} {name : Str} {apos cpos : Pos} {T id : String} {r : V -> List V -> Hp -> VK -> Prop}
theorem B5 (pa : PlainAttrs T) (slot : Slot T name id) (hty : typeOf (.builtin id) = pure (.type "method_descriptor")) (hm : Fc X id r) (ho : PE X o to) (ha : PA X (e :: es) t)
  (hbase : attributeBase o name X.env (eval o X.env) = eval o X.env := by rfl)
  (hfew : ((backTo cpos (starEach (e :: es) X.env)).all (fun x => !x.1) && (backToKw cpos (keywordEach [] X.env)).all (fun x => x.1.isSome)
   && decide ((e :: es).length + ([] : List Keyword).length + (if ([] : List Keyword).isEmpty then 0 else 1) < 30)) = true := by rfl)
  (hline : (apos.endLine == cpos.line) = true := by rfl) (hs : starEach (e :: es) X.env = (false,eval e X.env) :: starEach es X.env := by rfl) (hplain : (backTo cpos (starEach es X.env)).any (·.1) = false := by rfl) :
  PE X (.Call (.Attribute o name apos) (e :: es) [] cpos) (GX X.K T r to t) := by
 intro pins s σ H Q I h
 refine wpAny_Call_method_late hbase hfew hline rfl (Ar (ho pins s σ H _ I h) fun v s1 ⟨x,H1,I1,r1,ty,q1⟩ => ?_)
 obtain ⟨h1,h2⟩ := Mr I1 r1 ty
 refine ⟨T,id,pa,slot,hty,h1,h2,?_⟩
 have hA := ha cpos pins s1 σ H1 _ I1 q1
 rw [hs] at hA ⊢
 refine Calls.callWith_builtin (by show (false || (backTo cpos (starEach es X.env)).any (·.1)) = false; rw [hplain] <;> rfl) (Calls.evalArgs_plain ?_)
 exact Ar hA fun us s2 ⟨vs,H2,I2,r2,q2⟩ => hm pins s2 σ H2 x vs v us Q I2 r1 r2 q2
end
end L2
namespace L2
open PySem PySem.Spec PyProof.Rows
variable {its : List Value} {n t' : Nat}
def Ms (X : Cx) (id : String) (r : V -> List V -> Hp -> VK -> Prop) : Prop :=
 ∀ (pins : List (Addr × Obj)) (s : Shared) (σ : St) (H : Hp) (x : V) (xs : List V) (v : Value) (us : List Value) (Q : VK),Ac X pins σ H s -> Aw x v -> At xs us -> r x xs H Q ->
  wpAny (model X.prog X.w) X.A (call (.builtin id) (v :: us)) (EP X pins σ Q) X.xe s
theorem At.one : ∀ {x : V} {us : List Value},At [x] us -> ∃ u,us = [u] /\ Aw x u
 | _,_,.cons r .nil => ⟨_,rfl,r⟩
theorem At.two : ∀ {x y : V} {us : List Value},At [x,y] us -> ∃ u v,us = [u,v] /\ Aw x u /\ Aw y v
 | _,_,_,.cons r (.cons q .nil) => ⟨_,_,rfl,r,q⟩
theorem At.rep {xs : List V} {us : List Value} (h : At xs us) : ∀ k : Nat,At (List.replicate k xs).flatten (List.replicate k us).flatten
 | 0 => .nil
 | k + 1 => by
  rw [List.replicate_succ,List.replicate_succ,List.flatten_cons,List.flatten_cons]
  exact At.append h (At.rep h k)
theorem GY (its : List Value) : ∀ (k : Nat) (acc : List Value),
  List.foldl (fun x1 x2 => x1 ++ x2) acc.toArray (List.replicate k its.toArray) = (acc ++ (List.replicate k its).flatten).toArray
 | 0,acc => by simp
 | k + 1,acc => by
  have e : acc.toArray ++ its.toArray = (acc ++ its).toArray := by simp
  have e2 : (acc ++ its) ++ (List.replicate k its).flatten = acc ++ (List.replicate (k + 1) its).flatten := by
   rw [List.replicate_succ,List.flatten_cons,List.append_assoc]
  rw [<- e2,<- GY its k (acc ++ its),<- e,List.replicate_succ,List.foldl_cons]
section
variable {X : Cx} {pins : List (Addr × Obj)} {σ : St} {H : Hp} {s : Shared} {l b : Addr} {xs ys zs : List V}
theorem Ac.lset {its' : List Value} {f : Array Value -> Array Value} (I : Ac X pins σ H s) (hH : H l = some (.lst xs))
  (e : s.heap.get? l = some { cls := .type "list",data := .seq its.toArray n }) (hf : f its.toArray = its'.toArray) (hv : At ys its') (hz : ys.length <= sizeLine) :
  Ac X pins σ (upd H l (.lst ys)) { s with heap := s.heap.update l (Obj.mapSeq f),toks := t' } := by
 have q := PySem.IsL.update e f
 rw [hf] at q
 refine I.write (x := l) (e := l) (by rw [hH]; exact trivial) (.inl rfl) (fun b' u hb hu => (Heap.get?_update_other s.heap (Obj.mapSeq f) (Ne.symm hb)).trans hu) ⟨_,q⟩ ?_
 exact ⟨hz,its',_,hv,q⟩
theorem Ac.lnew (I : Ac X pins σ H s) (hv : At ys its) (hz : ys.length <= sizeLine) :
  Ac X pins σ (upd H s.heap.objs.size (.lst ys)) { s with heap := s.heap.push { cls := .type "list",data := .seq its.toArray },toks := t' } :=
 I.laid (fun _ _ q => Heap.get?_push_of_some _ q) (Nat.le_refl _) ⟨hz,its,0,hv,Heap.get?_push_size _ rfl⟩
theorem Ac.fresh (I : Ac X pins σ H s) : H s.heap.objs.size = none := I.hok.fresh (Nat.le_refl _)
theorem Ac.lstM (I : Ac X pins σ H s) (hH : H l = some (.lst xs)) : xs.length <= sizeLine /\ ∃ (its : List Value) (n : Nat),At xs its /\ xs.length = its.length /\ s.heap.get? l = some { cls := .type "list",data := .seq its.toArray n } := by
 obtain ⟨z,its,n,r,e⟩ := I.hok l _ hH
 exact ⟨z,its,n,r,r.length,e⟩
theorem Mt (h : n <= sizeLine) : Builtin.List.listTooLong n = false := by
 unfold Builtin.List.listTooLong
 exact decide_eq_false (by omega)
end
section
variable {X : Cx}
def Mu : V -> List V -> Hp -> VK -> Prop := fun x vs H Q => ∃ l xs y,x = .ref l /\ vs = [y] /\ H l = some (.lst xs) /\ xs.length < sizeLine /\ Q .non (upd H l (.lst (xs ++ [y])))
theorem Cf : Ms X "list.append" Mu := by
 intro pins s σ H x vs v us Q I rx rv h
 obtain ⟨l,xs,y,rfl,rfl,hH,hz,q⟩ := h
 cases rx
 obtain ⟨u,rfl,ru⟩ := rv.one
 obtain ⟨z,its,n,r,hl,e⟩ := I.lstM hH
 refine call_meets F.slot_list_append ⟨_,e,rfl⟩ F.entry_list_append (F.args_list_append_2 _ _) (PySem.list_append l its.toArray n u (by rw [List.size_toArray]; omega)) ⟨e,?_⟩
 refine ⟨.non,_,I.lset (its' := its ++ [u]) hH e (by simp) (r.append (.cons ru .nil)) ?_,rfl,q⟩
 rw [List.length_append,List.length_singleton]
 omega
def Mv : R2 := fun x y H Q => ∃ l b xs zs,x = .ref l /\ y = .ref b /\ H l = some (.lst xs) /\ H b = some (.lst zs) /\ xs.length + zs.length <= sizeLine /\ ∀ p,H p = none -> Q (.ref p) (upd H p (.lst (xs ++ zs)))
theorem DS : OpR X (binaryOp .Add) Mv := by
 intro pins s σ H x y v u Q I rx ry h
 obtain ⟨l,b,xs,zs,rfl,rfl,hH,hB,hz,q⟩ := h
 cases rx
 cases ry
 obtain ⟨z,its,n,r,hl,e⟩ := I.lstM hH
 obtain ⟨z2,its2,n2,r2,hl2,e2⟩ := I.lstM hB
 refine PySem.P.add_list e e2 ?_ (by rw [List.size_toArray,List.size_toArray]; omega)
 have ea : its.toArray ++ its2.toArray = (its ++ its2).toArray := by simp
 rw [ea]
 exact ⟨.ref _,_,I.lnew (t' := s.toks) (r.append r2) (by rw [List.length_append]; omega),rfl,q _ I.fresh⟩
def Mw : R2 := fun x y H Q => ∃ l k xs,x = .ref l /\ y = .int k /\ H l = some (.lst xs) /\ -(2 ^ 63) <= k /\ k < 2 ^ 63 /\ xs.length * k.toNat <= sizeLine /\
 ∀ p,H p = none -> Q (.ref p) (upd H p (.lst (List.replicate k.toNat xs).flatten))
theorem GZ {α : Type} (xs : List α) (k : Nat) : (List.replicate k xs).flatten.length = k * xs.length := by
 induction k with
 | zero => simp
 | succ k ih => rw [List.replicate_succ,List.flatten_cons,List.length_append,ih,Nat.succ_mul,Nat.add_comm]
theorem Fd : OpR X (binaryOp .Mult) Mw := by
 intro pins s σ H x y v u Q I rx ry h
 obtain ⟨l,k,xs,rfl,rfl,hH,h1,h2,hz,q⟩ := h
 cases rx
 obtain ⟨t,rfl⟩ := ry
 obtain ⟨z,its,n,r,hl,e⟩ := I.lstM hH
 have hlen : its.toArray.size * k.toNat <= sizeLine := by rw [List.size_toArray,<- hl]; exact hz
 have hcap : ¬ its.toArray.size * k.toNat > (2 ^ 63 - 1) / 8 := by
  have : (sizeLine : Nat) <= (2 ^ 63 - 1) / 8 := by decide
  omega
 have hfit : ¬ (!Builtin.List.listFitsIndex k) = true := by
  rw [fitsIndex_both h1 h2]
  exact Bool.false_ne_true
 have hlong : ¬ Builtin.List.listTooLong (its.toArray.size * k.toNat) = true := by
  rw [Mt hlen]
  exact Bool.false_ne_true
 have hnew : List.foldl (fun x1 x2 => x1 ++ x2) #[] (List.replicate (if its.toArray.isEmpty = true then 0 else k.toNat) its.toArray) = (List.replicate k.toNat its).flatten.toArray := by
  have f0 : ∀ m : Nat,List.foldl (fun x1 x2 => x1 ++ x2) #[] (List.replicate m its.toArray) = (List.replicate m its).flatten.toArray := fun m => by
   have := GY its m []
   rw [List.nil_append] at this
   exact this
  rw [f0]
  cases its with
  | nil => simp
  | cons a r' => rw [if_neg (by simp)]
 refine wpAny_binaryOp_repeat_ref (T := "list") (U := "int") (by decide) ⟨_,e,rfl⟩ (fun s' => typeIs_int s' k t) noFill_list_mul F.fills_int_mul F.slot_int_rmul repeat_list F.slot_int_index.lookup
  (call_meets F.slot_int_rmul (typeIs_int s k t) F.entry_int_rmul (F.args_int_rmul_2 _ _) (int___rmul___int_list k t l its.toArray n)
   ⟨e,rfl,⟨_,e,rfl⟩,call_meets F.slot_list_mul ⟨_,e,rfl⟩ F.entry_list_mul (F.args_list_mul_2 _ _) (AutoListH.list___mul___list_int_3 l its.toArray n k t hfit hcap hlong) ⟨e,?_⟩⟩)
 rw [hnew]
 exact ⟨.ref _,_,I.lnew (t' := s.toks) (r.rep k.toNat) (by rw [GZ,Nat.mul_comm]; exact hz),rfl,q _ I.fresh⟩
end
section
variable {prog : Program} {w : World} {A : Around} {E : Value -> Shared -> Prop} {s : Shared}
end
section
variable {X : Cx}
end
end L2
namespace Att
open PySem PySem.W PySem.Calls PyProof.Rows
theorem Mx {P : Params} {h : Heap} : ∀ (ns : List Int) (vs : List Value),WellAll P h vs (ns.map WData.int) -> IntsAre vs ns := by
 intro ns
 induction ns with
 | nil =>
  intro vs w
  rw [List.map_nil] at w
  cases w
  exact .nil
 | cons n ns ih =>
  intro vs w
  rw [List.map_cons] at w
  cases w with
  | cons a b =>
   cases a
   exact .cons _ _ (ih _ b)
theorem My {l : OpenLaw} {n : Nat} (hn : l.most = some n) {P : Params} {h : Heap} {args : List WData} {vals : List Value}
    (hpre : l.row.toRowW.claim.pre args = true) (hwl : WellAll P h vals args) :
    ∃ a vs ns,vals = [Value.ref a] /\ args = [WData.list (ns.map WData.int)] /\ h.get? a = some { cls := .type "list",data := .seq vs.toArray } /\ IntsAre vs ns /\ ns.length <= n := by
  have hsh : WShape.hasAll [] args [.list .int] = true := (pre_splitW hpre).1
  have hc : l.pre.holds [] { args := args } = true := (pre_splitW hpre).2
  obtain ⟨d,r,rfl,h1,h2⟩ := hasAllW_cons hsh
  obtain rfl := hasAllW_nil h2
  obtain ⟨xs,rfl,h3⟩ := hasW_list h1
  obtain ⟨ns,rfl⟩ := items_int h3
  have hlen : ns.length <= n := by
    unfold OpenLaw.pre at hc
    have h4 : (WTm.not (.lt (.lit (.int (n : Int))) (.len (.arg 0)))).holds [] { args := [.list (ns.map .int)] } = true := by
      have h4 := (holds_andW hc).1
      rw [hn] at h4
      exact h4
    have h5 := condW_of h4 (w_not (w_lt w_lit (w_len_list (w_arg rfl))))
    rw [List.length_map] at h5
    refine Nat.le_of_not_lt fun q => ?_
    have q' : (n : Int) < ((ns.length : Nat) : Int) := by omega
    first
      | (rw [decide_eq_true q'] at h5; exact absurd h5 (by decide))
      | (simp at h5; omega)
  cases hwl with
  | cons w1 w2 =>
    cases w2
    cases w1 with
    | list ho hall => exact ⟨_,_,ns,rfl,rfl,ho,Mx ns _ hall,hlen⟩
theorem Mz (l : OpenLaw) (args : List WData) : l.row.toRowW.claim.post args (.bool true) args = true :=
 postW_of (r := l.row.toRowW) (X := (true == true))
  (show WShape.has [] (.bool true) .bool = true by first | rfl | decide | simp [WShape.has,WShape.arms,WShape.armsAll])
  (show (WTm.eq .res (.lit (.bool true))).value [] { args := args,res := some (.bool true),after := args } = some (.bool (true == true)) from w_eq_bool (w_res rfl) w_lit) rfl
theorem attach_call {l : OpenLaw} {n : Nat} {q : Program} {loose : List Str} {XP : (Str -> Option Value) -> Heap -> Prop} {YP : World -> Heap -> Prop} {d : DefRec}
  (hn : l.most = some n) (hdf : d.params.defaults = [])
  (call : ∀ (w : World) (s₀ s₁ : Shared) (mg mb : Str -> Option Value) (fa : Addr) (o : Obj) (pm cd doc : Value) (a : Addr) (vs : List Value) (ns : List Int),
   Ground q loose [] XP w s₀ mg mb s₁.heap -> YP w s₁.heap ->
   s₁.heap.get? fa = some o -> o.data = .func (docDef d.name d.params d.body d.scope pm cd doc) -> s₁.heap.CodeRec cd d.name -> mg d.name = some (.ref fa) ->
   s₁.heap.get? a = some { cls := .type "list",data := .seq vs.toArray } -> IntsAre vs ns -> ns.length <= n -> s₁.gens = #[] ->
   codeAny (model l.prog w) callerA (.call (.ref fa) ⟨[.ref a],[]⟩) (fun r s' => r = .ok (.ret (.bool true)) /\ OldK s₁.heap s'.heap /\ s'.os = s₁.os /\ AllBare s'.gens) s₁) :
  WalkO q loose XP YP l.row.toRowW d [] (fun f vs => PySem.call f vs) := by
 intro w s₀ s₁ mg mb G Y fa o pm cd doc dV kV ho hd hcd hD hmg hg args vals as hpre hlay hrd hwl hlo
 obtain rfl : dV = .none := Dflts.none hD hdf
 obtain rfl : kV = .none := Dflts.noKw hD
 obtain ⟨a,vs,ns,rfl,rfl,hobj,hints,hlen⟩ := My hn hpre hwl
 refine enter_call (codeAny_mono (call w s₀ s₁ mg mb fa o pm cd doc a vs ns G Y ho (fd_plain hd) hcd hmg hobj hints hlen hg) fun r s' hq => ?_)
 obtain ⟨rfl,h2,h3,h4⟩ := hq
 exact ⟨.inl ⟨.bool true,.bool true,[],rfl,fun _ => rfl,.bool true,Mz l _,fun _ => ⟨List.Pairwise.nil,fun _ hm => (nomatch hm)⟩⟩,h2,h3,h4⟩
section
variable {prog : Program} {w : World} {A : Around} {E : Value -> Shared -> Prop} {s : Shared} {K : Frag}
end
end Att
namespace L2
open PySem PySem.Spec PyProof.Rows
theorem Jl : ∀ {vs : List Value} {ns : List Int},IntsAre vs ns -> At (ns.map V.int) vs
 | _,_,.nil => .nil
 | _,_,.cons n t h => .cons ⟨t,rfl⟩ (Jl h)
end L2
namespace L2
open PySem PySem.Spec PyProof.Rows
end L2
namespace L2
open PySem PySem.Spec PyProof.Rows
def Cz (s : Stmt) : Arguments := match s with
 | .FunctionDef _ a _ _ _ _ _ _ _ _ => a
 | _ => { posonlyargs := [],args := [],vararg := none,kwonlyargs := [],kw_defaults := [],kwarg := none,defaults := [] }
def Bv (s : Stmt) : List Stmt := match s with
 | .FunctionDef _ _ b _ _ _ _ _ _ _ => b
 | _ => []
def Aq (s : Stmt) : Scope := match s with
 | .FunctionDef _ _ _ _ _ _ sc _ _ _ => sc
 | _ => { kind := .function,names := [],isGenerator := false,isCoroutine := false }
abbrev CX0 : Cc := fun _ _ _ _ _ _ => False
abbrev E0 : XK := fun _ _ _ => False
theorem MA {X : Cx} : E9 CX0 X E0 := fun _ _ _ _ _ _ _ h => h.elim
structure Dx (K : PySem.W.Frag) (x qual : Str) (st : Stmt) (f : Addr) (fd : FuncData) : Prop where
 ex : ∃ (oc : Value) (od : Option Addr) (kV doc pm : Value) (an : Option Addr) (cdv ct : Value) (osl : Array (Option Value)),
  fd = PySem.W.fnOf x qual (Cz st) (Bv st) (Aq st) .none kV doc pm an cdv ct /\ K.lookup f = some ⟨oc,od,.func fd,osl⟩ /\ PySem.W.codeIn K cdv qual = true
 kp : PySem.W.keepIn K (.ref f) = true
section
variable {P : Program} {w : World} {K : PySem.W.Frag} {mg : Str -> Option Value} {base : Heap}
theorem Dx.ok {x qual : Str} {st : Stmt} {f : Addr} {fd : FuncData} {N ps : List Str} {k : Nat} {sp : Sp} (F : Dx K x qual st f fd) (S : Ax N ps (Aq st)) (len : ∀ vs H Q E,sp vs H Q E -> vs.length = ps.length)
  (hbody : ∀ (cdv : Value) (A : Around) (outer : List Env) (s : Shared) (H : Hp) (vs : List V) (Q : VK) (E : XK), AX k (A.deeper (envOfC qual (Aq st) s.heap.objs.size f cdv)) -> sp vs H Q E ->
   ∃ t,PSs (BK CX0 P w K mg base N qual (Aq st) f cdv A outer s H E).nox (Bv st) t /\ t { nx := fun _ H' => Q .non H',rt := Q } (start N vs) H) : Cw P w K mg base CX0 (k + 1) f fd ps sp := by
 obtain ⟨oc,od,kV,doc,pm,an,cdv,ct,osl,rfl,lk,hcd⟩ := F.ex
 refine GT lk hcd S len fun A outer s H vs Q E hr hsp => ?_
 obtain ⟨t,h,q⟩ := hbody cdv A outer s H vs Q E hr hsp
 exact ⟨t,h.nox,q⟩
theorem Dx.binds {x qual : Str} {st : Stmt} {f : Addr} {fd : FuncData} {ps : List Str} (F : Dx K x qual st f fd)
  (h : ∀ (kV doc pm : Value) (an : Option Addr) (cdv ct : Value) (us : List Value),us.length = ps.length -> bindArgs (PySem.W.fnOf x qual (Cz st) (Bv st) (Aq st) .none kV doc pm an cdv ct) ⟨us,[]⟩ = pure (ps.zip us)) : Binds K fd ps [] := by
 obtain ⟨oc,od,kV,doc,pm,an,cdv,ct,osl,rfl,lk,hcd⟩ := F.ex
 exact .all (h kV doc pm an cdv ct)
theorem Fe {x qual : Str} {st : Stmt} {f : Addr} {oc : Value} {od an : Option Addr} {osl : Array (Option Value)} {kV doc pm cdv ct : Value} (l : K.lookup f = some ⟨oc,od,.func (PySem.W.fnOf x qual (Cz st) (Bv st) (Aq st) .none kV doc pm an cdv ct),osl⟩)
  (c : PySem.W.codeIn K cdv qual = true) (k : PySem.W.keepIn K (.ref f) = true) : Dx K x qual st f (PySem.W.fnOf x qual (Cz st) (Bv st) (Aq st) .none kV doc pm an cdv ct) := ⟨⟨oc,od,kV,doc,pm,an,cdv,ct,osl,rfl,l,c⟩,k⟩
end
theorem DT {n : Nat} (h : n <= 1000) : n < sizeLine := Nat.lt_of_le_of_lt h (by decide)
section
variable {X : Cx}
end
def Ab (H H' : Hp) : Prop := ∀ b o,H b = some o -> H' b = some o
theorem Ab.refl (H : Hp) : Ab H H := fun _ _ h => h
theorem Ab.trans {H H1 H2 : Hp} (a : Ab H H1) (b : Ab H1 H2) : Ab H H2 := fun c o h => b c o (a c o h)
theorem Ab.seq {K : PySem.W.Frag} {H H' : Hp} {a : Addr} {xs : List V} (e : Ab H H') (h : Am K H a xs) : Am K H' a xs := by
 rcases h with (h | ⟨o,h⟩) | h
 ·exact .inl (.inl (e _ _ h))
 ·exact .inl (.inr ⟨o,e _ _ h⟩)
 ·exact .inr h
end L2
end
section
namespace L2
open PySem PySem.Spec PyProof.Rows
def AR (cs : List (Str × Addr)) : List (Str × NameKind) -> List (Str × Addr) -> List (Str × Addr)
  | [],acc => acc
  | (n,k) :: r,acc => if k == .free then (match cs.lookup n with | some a => AR cs r ((n,a) :: acc) | none => AR cs r acc) else AR cs r acc
theorem He {env : Env} : ∀ (names : List (Str × NameKind)) (acc : List (Str × Addr)),(∀ y ∈ names,y.2 = .free -> ∃ c,env.cells.lookup y.1 = some c) ->
    (forIn names acc (fun (p : Str × NameKind) (cs : List (Str × Addr)) => do
      if (p.2 == NameKind.free) = true then do
        let a <- cellOf env p.1
        pure (ForInStep.yield ((p.1,a) :: cs))
      else pure (ForInStep.yield cs)) : Sem (List (Str × Addr))) = pure (AR env.cells names acc)
  | [],acc,_ => rfl
  | (n, k) :: r, acc, h => by
    rw [List.forIn_cons]
    by_cases hk : (k == NameKind.free) = true
    . obtain ⟨c,hc⟩ := h (n,k) List.mem_cons_self (by simpa using hk)
      have hc' : env.cells.lookup n = some c := hc
      simp only [hk,if_true,cellOf,hc',AR]
      exact He r _ fun y hy => h y (List.mem_cons_of_mem _ hy)
    . have hk' : (k == NameKind.free) = false := by simpa using hk
      simp only [hk',Bool.false_eq_true,if_false,AR]
      exact He r _ fun y hy => h y (List.mem_cons_of_mem _ hy)
theorem Hf {env : Env} {scope : Scope} (h : ∀ y ∈ scope.names,y.2 = .free -> ∃ c,env.cells.lookup y.1 = some c) : closureFor scope env = pure (AR env.cells scope.names []) := by
 have q := He (env := env) scope.names [] h
 unfold closureFor
 simp only []
 have e : (forIn scope.names ([] : List (Str × Addr)) (fun (p : Str × NameKind) (cs : List (Str × Addr)) => do
   if (p.2 == NameKind.free) = true then do
    let a <- cellOf env p.1
    pure (ForInStep.yield ((p.1,a) :: cs))
   else pure (ForInStep.yield cs)) : Sem (List (Str × Addr))) >>= (fun cs => pure cs) = pure (AR env.cells scope.names []) := by rw [q]; rfl
 exact e
theorem Da {cs : List (Str × Addr)} {x : Str} {c : Addr} : ∀ (names : List (Str × NameKind)) (acc : List (Str × Addr)),(AR cs names acc).lookup x = some c -> cs.lookup x = some c \/ acc.lookup x = some c
  | [],_,h => .inr h
  | (n, k) :: r, acc, h => by
    unfold AR at h
    split at h
    . cases hc : cs.lookup n with
      | none => rw [hc] at h; exact Da r acc h
      | some a =>
        rw [hc] at h
        rcases Da r _ h with q | q
        . exact .inl q
        . rw [List.lookup_cons] at q
          cases hx : x == n with
          | true => rw [hx] at q; rw [beq_iff_eq.mp hx,hc]; exact .inl q
          | false => rw [hx] at q; exact .inr q
    . exact Da r acc h
theorem Ff {cs : List (Str × Addr)} {x : Str} {c : Addr} (hc : cs.lookup x = some c) : ∀ (names : List (Str × NameKind)) (acc : List (Str × Addr)),acc.lookup x = some c -> (AR cs names acc).lookup x = some c
  | [],_,h => h
  | (n, k) :: r, acc, h => by
    unfold AR
    split
    . cases hn : cs.lookup n with
      | none => exact Ff hc r acc h
      | some a =>
        refine Ff hc r _ ?_
        rw [List.lookup_cons]
        cases hx : x == n with
        | true => rw [beq_iff_eq.mp hx,hn] at hc; exact hc
        | false => exact h
    . exact Ff hc r acc h
theorem Dy {cs : List (Str × Addr)} {x : Str} {c : Addr} (hc : cs.lookup x = some c) : ∀ (names : List (Str × NameKind)) (acc : List (Str × Addr)),(x,NameKind.free) ∈ names -> (AR cs names acc).lookup x = some c
  | [],_,h => nomatch h
  | (n, k) :: r, acc, h => by
    unfold AR
    rcases List.mem_cons.mp h with e | h
    . cases e
      simp only [beq_self_eq_true,if_true,hc]
      exact Ff hc r _ (by simp [List.lookup_cons])
    . split
      . cases hn : cs.lookup n with
        | none => exact Dy hc r acc h
        | some a => exact Dy hc r _ h
      . exact Dy hc r acc h
theorem DU {x : Str} {c : Addr} : ∀ (names : List (Str × NameKind)) (n : Nat) (acc : List (Str × Addr)),(cellsFrom n names acc).lookup x = some c -> n <= c \/ acc.lookup x = some c
  | [],_,_,h => .inr h
  | (y, k) :: r, n, acc, h => by
    unfold cellsFrom at h
    split at h
    . rcases DU r (n + 1) _ h with q | q
      . exact .inl (by omega)
      . rw [List.lookup_cons] at q
        cases hx : x == y with
        | true => rw [hx] at q; cases q; exact .inl (Nat.le_refl _)
        | false => rw [hx] at q; exact .inr q
    . exact DU r n acc h
theorem Hi {x : Str} {c : Addr} {lo : Nat} : ∀ (names : List (Str × NameKind)) (n : Nat) (acc : List (Str × Addr)),lo <= n -> ((x,NameKind.cell) ∈ names \/ ∀ c,acc.lookup x = some c -> lo <= c) -> (cellsFrom n names acc).lookup x = some c -> lo <= c
  | [],_,_,_,hm,h => hm.elim (fun z => nomatch z) fun z => z c h
  | (y, k) :: r, n, acc, hl, hm, h => by
    unfold cellsFrom at h
    split at h
    . rename_i hk
      refine Hi r (n + 1) _ (by omega) ?_ h
      by_cases hx : x = y
      . refine .inr fun c' q => ?_
        rw [List.lookup_cons,hx,beq_self_eq_true] at q
        cases q; exact hl
      . rcases hm with hm | hm
        . rcases List.mem_cons.mp hm with e | hm
          . cases e; exact absurd rfl hx
          . exact .inl hm
        . refine .inr fun c' q => hm c' ?_
          rw [List.lookup_cons,beq_eq_false_iff_ne.mpr hx] at q
          exact q
    . rename_i hk
      refine Hi r n acc hl ?_ h
      rcases hm with hm | hm
      . rcases List.mem_cons.mp hm with e | hm
        . cases e; exact absurd rfl hk
        . exact .inl hm
      . exact .inr hm
theorem Hj {x : Str} {c : Addr} : ∀ (names : List (Str × NameKind)) (n : Nat) (acc : List (Str × Addr)),(x,NameKind.cell) ∉ names -> acc.lookup x = some c -> (cellsFrom n names acc).lookup x = some c
  | [],_,_,_,h => h
  | (y, k) :: r, n, acc, hm, h => by
    have hm' : (x,NameKind.cell) ∉ r := fun z => hm (List.mem_cons_of_mem _ z)
    unfold cellsFrom
    split
    . rename_i hk
      refine Hj r (n + 1) _ hm' ?_
      rw [List.lookup_cons]
      cases hx : x == y with
      | true =>
        have e1 : k = NameKind.cell := by simpa using hk
        exact absurd (by rw [beq_iff_eq.mp hx,e1]; exact List.mem_cons_self) hm
      | false => exact h
    . exact Hj r n acc hm' h
theorem Hk {x : Str} : ∀ (names : List (Str × NameKind)) (n : Nat) (acc : List (Str × Addr)),((x,NameKind.cell) ∈ names \/ ∃ c,acc.lookup x = some c) -> ∃ c,(cellsFrom n names acc).lookup x = some c
  | [],_,_,hm => hm.elim (fun z => nomatch z) fun z => z
  | (y, k) :: r, n, acc, hm => by
    unfold cellsFrom
    split
    . rename_i hk
      refine Hk r (n + 1) _ ?_
      by_cases hx : x = y
      . exact .inr ⟨n,by rw [hx,List.lookup_cons,beq_self_eq_true]⟩
      . rcases hm with hm | ⟨c,hm⟩
        . rcases List.mem_cons.mp hm with e | hm
          . cases e; exact absurd rfl hx
          . exact .inl hm
        . exact .inr ⟨c,by rw [List.lookup_cons,beq_eq_false_iff_ne.mpr hx]; exact hm⟩
    . rename_i hk
      refine Hk r n acc ?_
      rcases hm with hm | hm
      . rcases List.mem_cons.mp hm with e | hm
        . cases e; exact absurd rfl hk
        . exact .inl hm
      . exact .inr hm
theorem Hl : ∀ (names : List (Str × NameKind)) (n : Nat) (acc : List (Str × Addr)),(∀ x c,acc.lookup x = some c -> c < n) -> (∀ x y c,acc.lookup x = some c -> acc.lookup y = some c -> x = y) ->
    ∀ x y c,(cellsFrom n names acc).lookup x = some c -> (cellsFrom n names acc).lookup y = some c -> x = y
  | [],_,_,_,hi => hi
  | (z, k) :: r, n, acc, hb, hi => by
    unfold cellsFrom
    split
    . refine Hl r (n + 1) _ (fun x c q => ?_) fun x y c q q' => ?_
      . rw [List.lookup_cons] at q
        cases hx : x == z with
        | true => rw [hx] at q; cases q; exact Nat.lt_succ_self _
        | false => rw [hx] at q; exact Nat.lt_succ_of_lt (hb x c q)
      . rw [List.lookup_cons] at q q'
        cases hx : x == z with
        | true =>
          rw [hx] at q; cases q
          cases hy : y == z with
          | true => rw [beq_iff_eq.mp hx,beq_iff_eq.mp hy]
          | false => rw [hy] at q'; exact absurd (hb y _ q') (Nat.lt_irrefl _)
        | false =>
          rw [hx] at q
          cases hy : y == z with
          | true => rw [hy] at q'; cases q'; exact absurd (hb x _ q) (Nat.lt_irrefl _)
          | false => rw [hy] at q'; exact hi x y c q q'
    . exact Hl r n acc hb hi
theorem Hn : ∀ (names : List (Str × NameKind)) (h : Heap) (acc : List (Str × Addr)) {x : Str} {c : Addr},(cellsFrom h.objs.size names acc).lookup x = some c -> (pushCells h names).IsCell c none \/ acc.lookup x = some c
  | [],_,_,_,_,q => .inr q
  | (z, k) :: r, h, acc, x, c, q => by
    unfold cellsFrom at q
    unfold pushCells
    split at q
    . rename_i hk
      rw [if_pos hk]
      have e : (h.push { cls := .type "cell",data := .cell none }).objs.size = h.objs.size + 1 := Heap.size_push ..
      rw [<- e] at q
      rcases Hn r _ _ q with q | q
      . exact .inl q
      . rw [List.lookup_cons] at q
        cases hx : x == z with
        | true =>
          rw [hx] at q; cases q
          refine .inl ?_
          have w : (h.push { cls := .type "cell",data := .cell none }).IsCell h.objs.size none := ⟨_,Heap.get?_push_size _ rfl,rfl⟩
          exact w.keeps (pushCells_keeps r _)
        | false => rw [hx] at q; exact .inr q
    . rename_i hk
      rw [if_neg hk]
      exact Hn r h acc q
def Ho (scope : Scope) (env : Env) (C : Addr) : Env :=
  { scope := relabel scope env,locals := C,globals := env.globals,cells := cellsFrom (C + 1) scope.names (AR env.cells scope.names []),qual := env.qual,func := none,code := env.code,frame := env.frame,builtins := env.builtins }
theorem Jm {M : Model} {A : Around} {E : Value -> Shared -> Prop} {s : Shared} {scope : Scope} {env : Env} {cl : List (Str × Addr)} {Q : Env -> Shared -> Prop}
    (h : Q { scope := scope,locals := s.heap.objs.size,globals := env.globals,cells := cellsFrom (s.heap.objs.size + 1) scope.names cl,qual := env.qual,func := none,code := env.code,frame := env.frame,builtins := env.builtins }
      { s with heap := pushCells (s.heap.push { cls := .type "dict",data := .dict #[] }) scope.names }) :
    wpAny M A (newFunctionEnv scope env.globals cl [] env.qual none .none (some env)) Q E s := by
  have top : ({ s with heap := s.heap.push { cls := .type "dict",data := .dict #[] } } : Shared).heap.objs.size = s.heap.objs.size + 1 := Heap.size_push ..
  rw [<- top] at h
  unfold newFunctionEnv
  simp only [Option.isSome_some,if_true]
  exact wpAny_bind (wpAny_alloc (wpAny_bind (wpAny_layCells _ (fun n k cs => by by_cases c : (k == NameKind.cell) = true <;> simp [c]) _ _ _ _ (wpAny_bind (wpAny_pure (wpAny_pure h))))))
structure AM (sc : Scope) (N : List Str) (scope : Scope) (N' : List Str) (cap : List (Option Nat)) : Prop where
 kind : scope.kind = .function
 free : ∀ y ∈ scope.names,y.2 = .free -> sc.names.lookup y.1 = some .cell \/ sc.names.lookup y.1 = some .free
 len : cap.length = N'.length
 capt : ∀ (i j : Nat),cap[i]? = some (some j) -> ∃ x : Str,N'[i]? = some x /\ N[j]? = some x /\ (x,NameKind.free) ∈ scope.names /\ (x,NameKind.cell) ∉ scope.names
 names : ∀ y ∈ scope.names,y.2 = .local -> scope.names.lookup y.1 = some .local
 own : ∀ y ∈ scope.names,scope.names.lookup y.1 = some y.2
def Jn (sc : Scope) (N : List Str) (scope : Scope) (N' : List Str) (cap : List (Option Nat)) : Bool :=
  scope.kind == .function && (scope.names.all fun y => y.2 != .free || sc.names.lookup y.1 == some .cell || sc.names.lookup y.1 == some .free) && cap.length == N'.length &&
    ((List.range cap.length).all fun i => match cap[i]? with
      | some (some j) => (match N'[i]?, N[j]? with
        | some x,some y => x == y && scope.names.any (fun z => z.1 == x && z.2 == .free) && scope.names.all (fun z => !(z.1 == x && z.2 == .cell))
        | _,_ => false)
      | _ => true) && scope.names.all fun y => scope.names.lookup y.1 == some y.2
theorem AM.of {sc : Scope} {N : List Str} {scope : Scope} {N' : List Str} {cap : List (Option Nat)} (h : Jn sc N scope N' cap = true) : AM sc N scope N' cap := by
 unfold Jn at h
 simp only [Bool.and_eq_true] at h
 obtain ⟨⟨⟨⟨h1,h2⟩,h3⟩,h4⟩,h5⟩ := h
 have own : ∀ y ∈ scope.names,scope.names.lookup y.1 = some y.2 := fun y hy => by
  have := List.all_eq_true.mp h5 y hy
  simpa using this
 refine ⟨by simpa using h1,fun y hy hf => ?_,by simpa using h3,fun i j e => ?_,fun y hy hl => by rw [own y hy,hl],own⟩
 ·have := List.all_eq_true.mp h2 y hy
  rw [hf] at this
  simpa using this
 ·have hi : i < cap.length := (List.getElem?_eq_some_iff.mp e).1
  have := List.all_eq_true.mp h4 i (List.mem_range.mpr hi)
  rw [e] at this
  dsimp only at this
  cases hx : N'[i]? with
  | none => rw [hx] at this; simp at this
  | some x =>
   cases hy : N[j]? with
   | none => rw [hx,hy] at this; simp at this
   | some y =>
    rw [hx,hy] at this
    simp only [Bool.and_eq_true] at this
    obtain ⟨⟨t1,t2⟩,t3⟩ := this
    have e1 : x = y := by simpa using t1
    subst e1
    obtain ⟨z,hz,t⟩ := List.any_eq_true.mp t2
    simp only [Bool.and_eq_true] at t
    have z1 : z.1 = x := by simpa using t.1
    have z2 : z.2 = .free := by simpa using t.2
    have ez : z = (x,NameKind.free) := by rw [<- z1,<- z2]
    refine ⟨x,rfl,rfl,ez ▸ hz,fun hm => ?_⟩
    have := List.all_eq_true.mp t3 _ hm
    simp at this
def AJ (cap : List (Option Nat)) (σ : St) : St := cap.map fun o => match o with | some j => (match σ[j]? with | some v => v | none => none) | none => none
def BQ (X : Cx) (cs : List Expr) (t : TT) : Prop :=
 ∀ (pins : List (Addr × Obj)) (s : Shared) (σ : St) (H : Hp) (Q : Bool -> Hp -> Prop),Ac X pins σ H s -> t σ H Q ->
  wpAny (model X.prog X.w) X.A (forIn cs true fun c r => if r = true then do let ok <- isTrue c X.env (eval c X.env); pure (ForInStep.yield ok) else pure (ForInStep.yield r)) (TP X pins σ Q) X.xe s
def MB : TT := fun _ H Q => Q true H
theorem Bw {X : Cx} : BQ X [] MB := fun _ _ σ H Q I h => wpAny_tests_nil ⟨H,I,h⟩
theorem Fg {X : Cx} {c : Expr} {t : TT} (h : PT X c t) : BQ X [c] t := fun pins s σ H Q I q => wpAny_tests_one (h pins s σ H Q I q)
def AL (X : Cx) (N' : List Str) (scope : Scope) (s : Shared) (H : Hp) (ex : List Addr) (C : Addr) : Cx :=
  { X with N := N',s₀ := s,H₀ := H,env := Ho scope X.env C,outer := X.stack,ex := ex,fn := fun x => scope.names.any fun z => z.1 == x && z.2 == .cell,pn := [],xe := fun _ _ => False }
theorem Fh {env : Env} {x : Str} : ∀ (names : List (Str × NameKind)),(names.map fun (n,k) => if (k == NameKind.free && env.scope.kind == .function && env.kindOf n == some .cell) then (n,NameKind.cell) else (n,k)).lookup x =
    (names.lookup x).map fun k => if (k == NameKind.free && env.scope.kind == .function && env.kindOf x == some .cell) then NameKind.cell else k
  | [] => rfl
  | (n, k) :: r => by
    have ih := Fh (env := env) (x := x) r
    show List.lookup x ((if (k == NameKind.free && env.scope.kind == .function && env.kindOf n == some .cell) = true then (n,NameKind.cell) else (n,k)) :: _) = _
    cases hx : x == n with
    | true =>
      have e : x = n := beq_iff_eq.mp hx
      subst e
      split <;> simp_all [List.lookup_cons]
    | false =>
      have e : (List.lookup x ((n,k) :: r)) = r.lookup x := by rw [List.lookup_cons,hx]
      rw [e,<- ih]
      split <;> simp [List.lookup_cons,hx]
section
variable {X : Cx} {pins : List (Addr × Obj)} {σ : St} {H : Hp} {s : Shared} {scope : Scope} {N' : List Str} {cap : List (Option Nat)} {fp : List Addr}
theorem MC (I : Ac X pins σ H s) (B : AM X.env.scope X.N scope N' cap) (hf : ∀ b ∈ fp,Bs X pins H b) (hlt : ∀ b ∈ fp,b < s.heap.objs.size) {C : Addr} (hC : s.heap.objs.size <= C) :
  (AL X N' scope s H fp C).Ok := by
 have clt : ∀ x c,X.env.cells.lookup x = some c -> c < s.heap.objs.size := fun x c e => let ⟨_,q⟩ := I.cell x c e; q.lt
 have acc : ∀ x c,(AR X.env.cells scope.names []).lookup x = some c -> X.env.cells.lookup x = some c := fun x c e => (Da _ _ e).elim id fun z => nomatch z
 refine ⟨I.ok.mod,B.kind,I.ok.glob,I.ok.blt,hC,fun x y c h1 h2 => ?_,fun x hx => ?_,fun x c hx h => ?_,I.ok.hd,I.ok.frames,.inl rfl,fun b hb => ⟨?_,fun x c h e => ?_⟩,I.bs,Nat.le_trans I.ok.bsz I.sz,fun b o e hb => ?_,fun b hb z => ?_,I.stack,I.stkFree⟩
 ·exact Hl scope.names (C + 1) _ (fun x c e => Nat.lt_succ_of_lt (Nat.lt_of_lt_of_le (clt x c (acc x c e)) hC)) (fun x y c e e' => I.ok.inj x y c (acc x c e) (acc y c e')) x y c h1 h2
 ·have hx' : (relabel scope X.env).names.lookup x = some .cell \/ (relabel scope X.env).names.lookup x = some .free := hx
  have hl : (scope.names.lookup x).isSome = true := by
   unfold relabel at hx'
   rw [Fh] at hx'
   cases q : scope.names.lookup x with
   | none => rw [q] at hx'; rcases hx' with z | z <;> cases z
   | some k => rfl
  obtain ⟨k,hk⟩ := Option.isSome_iff_exists.mp hl
  have hm := PySem.mem_of_lookup hk
  refine Hk scope.names (C + 1) _ ?_
  cases k with
  | cell => exact .inl hm
  | free =>
   refine .inr ?_
   obtain ⟨c,hc⟩ := I.ok.has x (B.free _ hm rfl)
   exact ⟨c,Dy hc _ _ hm⟩
  | _ =>
   unfold relabel at hx'
   rw [Fh,hk] at hx'
   rcases hx' with z | z <;> simp at z
 ·have hx' : (scope.names.any fun z => z.1 == x && z.2 == .cell) = true := hx
  obtain ⟨z,hz,t⟩ := List.any_eq_true.mp hx'
  simp only [Bool.and_eq_true] at t
  have z1 : z.1 = x := by simpa using t.1
  have z2 : z.2 = .cell := by simpa using t.2
  have ez : z = (x,NameKind.cell) := by rw [<- z1,<- z2]
  have := Hi (lo := C + 1) scope.names (C + 1) _ (Nat.le_refl _) (.inl (ez ▸ hz)) h
  exact Nat.le_trans hC (Nat.le_of_succ_le this)
 ·exact Nat.ne_of_lt (Nat.lt_of_lt_of_le (hlt b hb) hC)
 ·rcases DU scope.names (C + 1) _ h with q | q
  ·have := hlt b hb
   rw [<- e] at this
   exact absurd (Nat.lt_of_lt_of_le this (Nat.le_trans hC (Nat.le_of_succ_le q))) (Nat.lt_irrefl _)
  ·exact (hf b hb).2.2.2.2.1 x c (acc x c q) e
 ·obtain ⟨_,_,_,f3,_⟩ := hf b hb
  rcases f3 with f3 | f3
  ·exact I.ok.noex b o e f3
  ·exact absurd (Nat.lt_of_lt_of_le (Heap.lt_size e) (Nat.le_trans I.ok.bsz f3)) (Nat.lt_irrefl _)
 ·obtain ⟨_,f1,f2,_⟩ := hf b hb
  rcases List.mem_cons.mp (I.stkSub b z) with q | q
  ·exact f1 q
  ·exact f2 q
theorem Jo (I : Ac X pins σ H s) (B : AM X.env.scope X.N scope N' cap) (hf : ∀ b ∈ fp,Bs X pins H b) (hlt : ∀ b ∈ fp,b < s.heap.objs.size) {h3 : Heap} (hk : ∀ b o,s.heap.get? b = some o -> h3.get? b = some o) (hsz : s.heap.objs.size <= h3.objs.size) :
  Ac (AL X N' scope s H fp h3.objs.size) [] (AJ cap σ) H { s with heap := pushCells (h3.push { cls := .type "dict",data := .dict #[] }) scope.names } := by
 have acc : ∀ x c,(AR X.env.cells scope.names []).lookup x = some c -> X.env.cells.lookup x = some c := fun x c e => (Da _ _ e).elim id fun z => nomatch z
 have hk3 : ∀ b o,h3.get? b = some o -> (pushCells (h3.push { cls := .type "dict",data := .dict #[] }) scope.names).get? b = some o := fun b o e => pushCells_keeps _ _ b o (Heap.get?_push_of_some _ e)
 have hk4 : ∀ b o,s.heap.get? b = some o -> (pushCells (h3.push { cls := .type "dict",data := .dict #[] }) scope.names).get? b = some o := fun b o e => hk3 b o (hk b o e)
 refine ⟨MC I B hf hlt hsz,rfl,I.bare,Un.kept hk4,⟨fun _ => none,(Heap.Ns.new h3 (.type "dict")).keeps (pushCells_keeps _ _),fun i x v h1 h2 h4 => ?_⟩,fun x c h => ?_,?_,fun x c h => ?_,fun p hp => absurd (show p ∈ ([] : List (Addr × Obj)) from hp) (by simp),I.hok.kept hk4,?_⟩
 ·have h2' : (AJ cap σ)[i]? = some (some v) := h2
  unfold AJ at h2'
  rw [List.getElem?_map] at h2'
  cases q : cap[i]? with
  | none => rw [q] at h2'; cases h2'
  | some o =>
   rw [q] at h2'
   cases o with
   | none => exact nomatch Option.some.inj h2'
   | some j =>
    have h2'' : (match σ[j]? with | some v => v | none => none) = some v := Option.some.inj h2'
    cases qs : σ[j]? with
    | none => rw [qs] at h2''; cases h2''
    | some v' =>
     rw [qs] at h2''
     have hs : σ[j]? = some (some v) := by rw [qs]; exact congrArg some h2''
     obtain ⟨x',e1,e2,e3,e4⟩ := B.capt i j q
     have h1' : N'[i]? = some x := h1
     rw [h1'] at e1; cases e1
     have hcf := B.free _ e3 rfl
     obtain ⟨m,hn,hl⟩ := I.loc
     obtain ⟨u,ru,lk⟩ := hl j x v e2 hs (hcf.elim (fun z => .inr (.inl z)) fun z => .inr (.inr z))
     refine ⟨u,ru,?_⟩
     rcases lk with ⟨lk,_⟩ | ⟨_,c,hc,ic⟩
     ·have lk' : X.env.scope.names.lookup x = some .local := lk
      have hcf' : X.env.scope.names.lookup x = some .cell \/ X.env.scope.names.lookup x = some .free := hcf
      rw [lk'] at hcf'; rcases hcf' with z | z <;> cases z
     ·refine .inr ⟨?_,c,Hj _ _ _ e4 (Dy hc _ _ e3),ic.keeps hk4⟩
      have : (relabel scope X.env).names.lookup x = some .cell \/ (relabel scope X.env).names.lookup x = some .free := by
       unfold relabel
       rw [Fh,B.own _ e3]
       dsimp only [Option.map]
       split
       ·exact .inl rfl
       ·exact .inr rfl
      exact this
 ·have h' : (cellsFrom (h3.objs.size + 1) scope.names (AR X.env.cells scope.names [])).lookup x = some c := h
  have e : (h3.push { cls := .type "dict",data := .dict #[] }).objs.size = h3.objs.size + 1 := Heap.size_push ..
  rw [<- e] at h'
  rcases Hn _ _ _ h' with q | q
  ·exact ⟨_,q⟩
  ·obtain ⟨v,z⟩ := I.cell x c (acc x c q)
   exact ⟨v,z.keeps hk4⟩
 ·exact I.hok.fresh hsz
 ·rcases DU scope.names (h3.objs.size + 1) _ h with q | q
  ·exact I.hok.fresh (Nat.le_trans hsz (Nat.le_of_succ_le q))
  ·exact I.freeC x c (acc x c q)
 ·show (AJ cap σ).length = N'.length
  unfold AJ
  rw [List.length_map]
  exact B.len
end
end L2
end
section
namespace L2
open PySem PySem.Spec PyProof.Rows
variable {E : Expr} {Y : Cx} {a : Addr} {PB : List (Addr × Obj)} {σ : St} {zs xs : List V} {H : Hp} {its : List Value} {k : Nat} {te : TE} {wi : TI} {g : TG} {tt : TT} {cap : List (Option Nat)} {Q : List V -> Hp -> Prop}
def Keep : St -> St -> Prop
 | [],[] => True
 | none :: r,_ :: r' => Keep r r'
 | some v :: r,o :: r' => o = some v /\ Keep r r'
 | _,_ => False
theorem Keep.len : ∀ {a b : St},Keep a b -> a.length = b.length
 | [],[],_ => rfl
 | none :: r,_ :: r',h => by have h' : Keep r r' := h; simp [Keep.len h']
 | some v :: r,o :: r',h => by have h' : o = some v /\ Keep r r' := h; simp [Keep.len h'.2]
theorem Keep.get : ∀ {a b : St} {i : Nat} {v : V},Keep a b -> a[i]? = some (some v) -> b[i]? = some (some v)
 | [],[],_,_,_,e => by simp at e
 | none :: r,_ :: r',0,v,h,e => by simp at e
 | none :: r,_ :: r',i + 1,v,h,e => by
  have h' : Keep r r' := h
  simpa using Keep.get (i := i) h' (by simpa using e)
 | some v :: r,o :: r',0,w,h,e => by
  have h' : o = some v /\ Keep r r' := h
  simp at e
  simp [h'.1,e]
 | some v :: r,o :: r',i + 1,w,h,e => by
  have h' : o = some v /\ Keep r r' := h
  simpa using Keep.get (i := i) h'.2 (by simpa using e)
def br (c : Bool) (A B : Prop) : Prop := (c = true -> A) /\ (c = false -> B)
def Hr (wi : TI) (cap : List (Option Nat)) (g : TG) (tt : TT) (te : TE) : St -> Hp -> (List V -> Hp -> Prop) -> Prop := fun σ H Q => wi σ H fun J H1 =>
 ∃ W : Nat -> Nat -> List V -> Hp -> Prop,(∃ m,W 0 m [] H1) /\ ∀ i m ys H,W i m ys H ->
  (J.stop i H /\ Q ys H) \/
  (J.go i H /\ ys.length < sizeLine /\ ∃ N : List V -> Hp -> Prop, (∀ ys' H', N ys' H' -> ∃ m', m' < m /\ W (i + 1) m' ys' H') /\ ∀ x H', J.yld i H x H' -> g x (AJ cap σ) H' fun σ2 H2 => Keep (AJ cap σ) σ2 /\ tt σ2 H2 fun b H3 =>
   br b (te σ2 H3 fun y H4 => N (ys ++ [y]) H4) (N ys H3))
structure Fi (X : Cx) (pins : List (Addr × Obj)) (C : Addr) (H : Hp) (s : Shared) : Prop where
 ns : ∃ m,s.heap.Ns C m
 free : H C = none
 loc : C ≠ X.env.locals
 sz : X.s₀.heap.objs.size <= C
 cell : ∀ x c,X.env.cells.lookup x = some c -> c ≠ C
 pin : ∀ p ∈ X.pn ++ pins,p.1 ≠ C
abbrev TB := St -> List V -> Hp -> (List V -> Hp -> Prop) -> Prop
def EC (E : Expr) (d : Nat) (tg it : Expr) (ifs : List Expr) (body : Sem PySem.Fin) (itv acc : Value) (env : Env) : Sem PySem.Fin := do
  standAt it.pos
  let r <- pyNext itv
  match r with
   | none => pure (Fin.done Flow.next)
   | some v => do
    letOwnedTupleGo tg itv v
    assign tg env v
    let ok <- forIn ifs true fun c r => if r = true then do let ok <- PySem.isTrue c env (eval c env); pure (ForInStep.yield ok) else pure (ForInStep.yield r)
    if ok = true then body else again (Code.compLoop E d itv acc env)
def Fj (E : Expr) (d : Nat) (elt : Expr) (itv acc : Value) (env : Env) : Sem PySem.Fin := do
  let _ <- (do
   let x <- eval elt env
   let _ <- call (Value.builtin "list.append") [acc,x]
   pure ())
  again (Code.compLoop E d itv acc env)
def Hs (E : Expr) (d : Nat) (it2 : Expr) (itv acc : Value) (env : Env) : Sem PySem.Fin := do
  let x <- eval it2 env
  standAt it2.pos
  let x <- foldedSetIterable it2 env x
  let j <- holding [x] (pyIter x)
  let _ <- runOwn (Code.compStart E (d + 1) j acc env) env
  again (Code.compLoop E d itv acc env)
abbrev Fk (M : Model) (A : Around) (E : Expr) (d : Nat) (itv acc : Value) (env : Env) (body : Sem PySem.Fin) (P : Shared -> Prop) (s : Shared) : Prop := wpAny M A body (fun fin s' => fin = .again (.compLoop E d itv acc env) /\ P s') (fun _ _ => False) s
section
variable {prog : Program} {w : World} {A : Around} {R : Result -> Shared -> Prop} {s : Shared} {e0 tg it elt it2 : Expr} {gs : List Comprehension} {ifs : List Expr} {sc : Scope} {ps : Pos} {itv acc : Value} {env : Env} {d : Nat} {body : Sem PySem.Fin} {P : Shared -> Prop}
theorem MD (h : wpAny (model prog w) A (eval elt env) (fun x s₄ => wpAny (model prog w) A (call (.builtin "list.append") [acc,x]) (fun _ s₅ => P s₅) (fun _ _ => False) s₄) (fun _ _ => False) s) : Fk (model prog w) A E d itv acc env (Fj E d elt itv acc env) P s :=
 wpAny_bind (wpAny_bind (wpAny_mono h (fun x s₄ h₄ => wpAny_bind (wpAny_mono h₄ (fun _ s₅ h₅ => wpAny_pure (wpAny_pure ⟨rfl,h₅⟩)) fun _ _ h' => h'.elim)) fun _ _ h' => h'.elim))
theorem ME (hs : ∀ x,foldedSetIterable it2 env x = pure x) (h : wpAny (model prog w) A (eval it2 env) (fun x s₄ => wpAny (model prog w) A (pyIter x) (fun j s₅ => codeAny (model prog w) (A.mark none) (.compStart E (d + 1) j acc env) (fun r s₆ => r = .ok .next /\ P s₆) s₅) (fun _ _ => False) s₄) (fun _ _ => False) s) : Fk (model prog w) A E d itv acc env (Hs E d it2 itv acc env) P s := by
 refine wpAny_bind (wpAny_mono h (fun x s₄ h₄ => wpAny_bind (wpAny_standAt ?_)) fun _ _ h' => h'.elim)
 rw [hs]
 refine wpAny_bind (wpAny_pure (wpAny_bind (wpAny_holding (wpAny_mono h₄ (fun j s₅ h₅ => ?_) fun _ _ h' => h'.elim))))
 refine wpAny_bind (wpAny_runOwn (codeAny_mono h₅ fun r s₆ h₆ => ?_))
 obtain ⟨rfl,h₆⟩ := h₆
 exact wpAny_pure ⟨rfl,h₆⟩
theorem MG (ht : compTurn (.ListComp e0 gs sc ps) d itv acc env = EC (.ListComp e0 gs sc ps) d tg it ifs body itv acc env) (I : Nat -> Shared -> Prop)
  (turn : ∀ n s, I n s -> wpAny (model prog w) A (pyNext itv) (fun r s₁ => match r with
   | none => R (.ok .next) s₁
   | some v => wpAny (model prog w) A (letOwnedTupleGo tg itv v) (fun _ s₁' => wpAny (model prog w) A (assign tg env v) (fun _ s₂ =>
     wpAny (model prog w) A (forIn ifs true fun c r => if r = true then do let ok <- isTrue c env (eval c env); pure (ForInStep.yield ok) else pure (ForInStep.yield r)) (fun ok s₃ =>
      if ok = true then Fk (model prog w) A (.ListComp e0 gs sc ps) d itv acc env body (fun s₅ => ∃ m,m < n /\ I m s₅) s₃
      else ∃ m,m < n /\ I m s₃) (fun _ _ => False) s₂) (fun _ _ => False) s₁') (fun _ _ => False) s₁) (fun _ _ => False) s)
  (n : Nat) (h : I n s) : codeAny (model prog w) A (.compLoop (.ListComp e0 gs sc ps) d itv acc env) R s := by
 refine codeAny_loop rfl I (fun n s hI => ?_) n h
 show wpAny _ A ((compTurn (.ListComp e0 gs sc ps) d itv acc env).onRaise (fun x => do noteFrame x env; theTreesLotGoes x)) _ _ s
 refine wpAny_noted ?_
 rw [ht]
 unfold EC
 refine wpAny_bind (wpAny_standAt (wpAny_bind (wpAny_mono (turn n s hI) (fun r s₁ h₁ => ?_) fun _ _ h' => h'.elim)))
 cases r with
 | none => exact wpAny_pure h₁
 | some v =>
  refine wpAny_bind (wpAny_mono h₁ (fun _ s₁' h₁' => ?_) fun _ _ h' => h'.elim)
  refine wpAny_bind (wpAny_mono h₁' (fun _ s₂ h₂ => wpAny_bind (wpAny_mono h₂ (fun ok s₃ h₃ => ?_) fun _ _ h' => h'.elim)) fun _ _ h' => h'.elim)
  cases ok with
  | false => exact wpAny_pure ⟨rfl,h₃⟩
  | true => exact wpAny_mono h₃ (fun fin s₅ ⟨e,q⟩ => by subst e; exact ⟨rfl,q⟩) fun _ _ h' => h'.elim
end
structure CV (Y : Cx) (a : Addr) : Prop where
 loc : a ≠ Y.env.locals
 fs : a ∉ Y.fs
 sz : a ∈ Y.ex \/ Y.s₀.heap.objs.size <= a
 cell : ∀ x c,Y.env.cells.lookup x = some c -> c ≠ a
 pn : Y.pn = []
 calm : Y.calm = true
abbrev Dz (its : List Value) (k : Nat) : Obj := { cls := .type "list",data := .seq its.toArray k }
structure Grown (Y : Cx) (a : Addr) (PB : List (Addr × Obj)) (σ : St) (zs : List V) (H : Hp) (s : Shared) : Prop where
 inv : Ac Y PB σ H s
 no : H a = none
 len : zs.length <= sizeLine
 at' : ∃ its k,s.heap.get? a = some (Dz its k) /\ At zs its
theorem Grown.pin {s : Shared} (A : CV Y a) (g : Grown Y a PB σ zs H s) (e : s.heap.get? a = some (Dz its k)) : Ac Y ((a,Dz its k) :: PB) σ H s :=
 g.inv.pins_of fun p hp => by
  rcases List.mem_cons.mp hp with rfl | hp
  ·exact ⟨e,g.no,A.loc,A.fs,fun v z => by
    have z' : Data.seq its.toArray k = Data.cell v := z
    cases z'⟩
  ·exact g.inv.pin p (List.mem_append_right _ hp)
theorem Ac.grown {s : Shared} (I : Ac Y ((a,Dz its k) :: PB) σ H s) (hz : zs.length <= sizeLine) (v : At zs its) : Grown Y a PB σ zs H s := by
 have q := I.pin (a,Dz its k) (List.mem_append_right _ List.mem_cons_self)
 exact ⟨I.pins_of fun p hp => I.pin p (List.mem_append_right _ (List.mem_cons_of_mem _ hp)),q.2.1,hz,its,k,q.1,v⟩
def Jp : List V -> Prop -> Prop := fun zs p => zs.length < sizeLine /\ p
def MH : List V -> Prop -> Prop := fun _ p => p
def ED (Y : Cx) (a : Addr) (E : Expr) (d : Nat) (body : Value -> Sem PySem.Fin) (C : List V -> Prop) (B : TB) : Prop :=
 ∀ (jt : Value) (PB : List (Addr × Obj)) (σ : St) (zs : List V) (H : Hp) (s : Shared) (N : List V -> Hp -> Prop) (P : Shared -> Prop),(∀ p ∈ PB,p.1 ≠ a) -> Grown Y a PB σ zs H s -> C zs -> B σ zs H N -> (∀ zs' H' s',Grown Y a PB σ zs' H' s' -> N zs' H' -> P s') -> Fk (model Y.prog Y.w) Y.A E d jt (.ref a) Y.env (body jt) P s
theorem Jq {e0 tg it : Expr} {gs : List Comprehension} {ifs : List Expr} {sc : Scope} {ps : Pos} {d m0 : Nat} {Y : Cx} {a jt : Addr} {PB : List (Addr × Obj)} {g : TG} {tt : TT} {B : TB} {C : List V -> Prop} {Z : List V -> Prop -> Prop} {body : Value -> Sem PySem.Fin} {fp : List Addr} {tn : Nat -> Heap -> Prop} {J : It} {W : Nat -> Nat -> List V -> Hp -> Prop} {σ : St} {ys : List V} {H : Hp} {s : Shared} {N : List V -> Hp -> Prop} {R : Result -> Shared -> Prop}
  (A : CV Y a) (hPB : ∀ p ∈ PB,p.1 ≠ a) (ht : ∀ itv,compTurn (.ListComp e0 gs sc ps) d itv (.ref a) Y.env = EC (.ListComp e0 gs sc ps) d tg it ifs (body itv) itv (.ref a) Y.env) (hx : Y.xe = fun _ _ => False) (hg : PG Y tg g) (htt : BQ Y ifs tt) (hb : ED Y a (.ListComp e0 gs sc ps) d body C B) (hZ : ∀ zs p,Z zs p -> C zs /\ p)
  (T : CJ Y.prog Y.w Y.K tg J fp jt tn) (na : ∀ b ∈ fp,b ≠ a) (fpY : ∀ {o : Obj} {H' : Hp},(∀ b ∈ fp,H' b = none) -> ∀ b ∈ fp,Bs Y ((a,o) :: PB) H' b) (st : tn 0 s.heap) (gr : Grown Y a PB σ ys H s) (hn : ∀ b ∈ fp,H b = none) (w0 : W 0 m0 ys H)
  (turn : ∀ j m zs H,W j m zs H -> (J.stop j H /\ N zs H) \/ (J.go j H /\ Z zs (∃ N2 : List V -> Hp -> Prop,(∀ zs' H',N2 zs' H' -> ∃ m',m' < m /\ W (j + 1) m' zs' H') /\ ∀ x H',J.yld j H x H' -> g x σ H' fun σ3 H2 => Keep σ σ3 /\ tt σ3 H2 fun b H3 => br b (B σ3 zs H3 N2) (N2 zs H3))))
  (back : ∀ zs H' s',Grown Y a PB σ zs H' s' -> N zs H' -> R (.ok .next) s') : codeAny (model Y.prog Y.w) Y.A (.compLoop (.ListComp e0 gs sc ps) d (.ref jt) (.ref a) Y.env) R s := by
 refine MG (ht _) (fun n' s' => ∃ (j : Nat) (zs : List V) (H' : Hp),Grown Y a PB σ zs H' s' /\ tn j s'.heap /\ (∀ b ∈ fp,H' b = none) /\ W j n' zs H') ?_ m0 ⟨0,ys,H,gr,st,hn,w0⟩
 rintro n' s12 ⟨j,zs,H12,g12,st12,fr12,w12⟩
 obtain ⟨its',k',e12,v12⟩ := g12.at'
 have I12 := g12.pin A e12
 rcases turn j n' zs H12 w12 with ⟨stop,q⟩ | ⟨go2,hz0⟩
 ·refine Ar (T.done Y rfl rfl rfl A.calm j _ s12 _ H12 _ I12 (fpY fr12) st12 stop) fun r s13 ⟨hr,I13⟩ => ?_
  subst hr
  exact back zs H12 s13 (Ac.grown I13 g12.len v12) q
 ·obtain ⟨hC,N2,hN2,step2⟩ := hZ _ _ hz0
  refine Ar (T.item Y rfl rfl rfl A.calm j _ s12 _ H12 _ I12 (fpY fr12) st12 go2) fun r s13 ⟨u2,hr,h13⟩ => ?_
  subst hr
  refine Ar h13 fun _ s14 ⟨x2,H14,I14,r14,y14,st14,fr14⟩ => ?_
  have I14' := I14.pinned (fpY fr14) (T.obj _ _ st14)
  have hgY := hg _ s14 _ H14 x2 u2 _ I14' r14 (step2 x2 H14 y14)
  rw [hx] at hgY
  refine Ar hgY fun _ s15 ⟨σ15,H15,I15,kp2,q15⟩ => ?_
  have htY := htt _ s15 σ15 H15 _ I15 q15
  rw [hx] at htY
  refine Ar htY fun b2 s16 ⟨H16,I16,q16⟩ => ?_
  have pn : ∀ p ∈ PB ++ Ct fp s14.heap,p.1 ≠ a := fun p hp => by
   rcases List.mem_append.mp hp with hp | hp
   ·exact hPB p hp
   ·exact na p.1 (GM hp).1
  have back2 : ∀ {σ' : St} {zs' : List V} {H' : Hp} {s' : Shared},Keep σ σ' -> Grown Y a (PB ++ Ct fp s14.heap) σ' zs' H' s' -> N2 zs' H' -> ∃ m,m < n' /\ ∃ (j : Nat) (zs : List V) (H' : Hp),Grown Y a PB σ zs H' s' /\ tn j s'.heap /\ (∀ b ∈ fp,H' b = none) /\ W j m zs H' := fun {σ' zs' H' s'} kp G n2 => by
   obtain ⟨m',hm,w16⟩ := hN2 _ _ n2
   refine ⟨m',hm,j + 1,zs',H',⟨(G.inv.pins_of fun p hp => G.inv.pin p (List.mem_append_right _ (List.mem_append_left _ hp))).weak (by rw [kp.len]) fun i v e => kp.get e,G.no,G.len,G.at'⟩,T.keep _ _ _ st14 fun b hb o e => (G.inv.pin (b,o) (List.mem_append_right _ (List.mem_append_right _ (DP hb e)))).1,fun b hb => ?_,w16⟩
   obtain ⟨o,e,d⟩ := T.obj _ _ st14 b hb
   exact (G.inv.pin (b,o) (List.mem_append_right _ (List.mem_append_right _ (DP hb e)))).2.1
  have g16 : Grown Y a (PB ++ Ct fp s14.heap) σ15 zs H16 s16 := Ac.grown I16 g12.len v12
  cases b2 with
  | false =>
   rw [if_neg Bool.false_ne_true]
   exact back2 kp2 g16 (q16.2 rfl)
  | true =>
   rw [if_pos rfl]
   exact hb _ _ _ _ _ _ _ _ pn g16 hC (q16.1 rfl) fun zs' H' s' G n2 => back2 kp2 G n2
def Ht (te : TE) : TB := fun σ zs H N => te σ H fun y H4 => N (zs ++ [y]) H4
theorem Jr {elt : Expr} {d : Nat} (A : CV Y a) (hx : Y.xe = fun _ _ => False) (he : PE Y elt te) : ED Y a E d (fun jt => Fj E d elt jt (.ref a) Y.env) (fun zs => zs.length < sizeLine) (Ht te) := by
 intro jt PB σ zs H s N P hPB gr zlt h back
 obtain ⟨its',k',e12,v12⟩ := gr.at'
 have I16 := gr.pin A e12
 have heY := he _ s σ H _ I16 h
 rw [hx] at heY
 refine MD (Ar heY fun yv s17 ⟨y,H17,I17,r17,n17⟩ => ?_)
 have gI := Ac.grown I17 gr.len v12
 have b4 := (I17.pin (a,Dz its' k') (List.mem_append_right _ List.mem_cons_self)).1
 have hl := v12.length
 refine call_meets F.slot_list_append ⟨_,b4,rfl⟩ F.entry_list_append (F.args_list_append_2 _ _) (PySem.list_append a its'.toArray k' yv (by rw [List.size_toArray]; omega)) ⟨b4,?_⟩
 have q := PySem.IsL.update b4 (fun a => a.push yv)
 have eqp : its'.toArray.push yv = (its' ++ [yv]).toArray := by simp
 rw [eqp] at q
 have I18 : Ac Y PB σ H17 { s17 with heap := s17.heap.update a (Obj.mapSeq fun a => a.push yv),toks := s17.toks } :=
  gI.inv.turned (it := a) (fun b o hb e => (Heap.get?_update_other s17.heap _ (Ne.symm hb)).trans e) gI.no A.loc A.sz A.cell fun p hp z => by
   rw [A.pn,List.nil_append] at hp
   exact hPB p hp z
 exact back (zs ++ [y]) H17 _ ⟨I18,gI.no,by rw [List.length_append,List.length_singleton]; omega,its' ++ [yv],_,q,v12.append (.cons r17 .nil)⟩ n17
def Js (Z : List V -> Prop -> Prop) (wi : TI) (g : TG) (tt : TT) (B : TB) : TB := fun σ ys H N => wi σ H fun J H1 => ∃ W : Nat -> Nat -> List V -> Hp -> Prop,(∃ m,W 0 m ys H1) /\ ∀ j m zs H,W j m zs H ->
  (J.stop j H /\ N zs H) \/ (J.go j H /\ Z zs (∃ N2 : List V -> Hp -> Prop,(∀ zs' H',N2 zs' H' -> ∃ m',m' < m /\ W (j + 1) m' zs' H') /\ ∀ x H',J.yld j H x H' -> g x σ H' fun σ3 H2 => Keep σ σ3 /\ tt σ3 H2 fun b H3 => br b (B σ3 zs H3 N2) (N2 zs H3)))
theorem MI {e0 tg it : Expr} {gs : List Comprehension} {ifs : List Expr} {sc : Scope} {ps : Pos} {d : Nat} {B : TB} {C : List V -> Prop} {Z : List V -> Prop -> Prop} {body : Value -> Sem PySem.Fin} (A : CV Y a) (hx : Y.xe = fun _ _ => False) (hs : ∀ x,foldedSetIterable it Y.env x = pure x)
  (ht : ∀ itv,compTurn (.ListComp e0 gs sc ps) (d + 1) itv (.ref a) Y.env = EC (.ListComp e0 gs sc ps) (d + 1) tg it ifs (body itv) itv (.ref a) Y.env)
  (hst : ∀ {R : Result -> Shared -> Prop} {s : Shared} {j : Value},codeAny (model Y.prog Y.w) Y.A (.compLoop (.ListComp e0 gs sc ps) (d + 1) j (.ref a) Y.env) R s -> wpAny (model Y.prog Y.w) Y.A (pyIter j) (fun j' s' => codeAny (model Y.prog Y.w) Y.A (.compLoop (.ListComp e0 gs sc ps) (d + 1) j' (.ref a) Y.env) R s') (notedBy (model Y.prog Y.w) Y.A Y.env fun x s' => R (.error x) s') s -> codeAny (model Y.prog Y.w) Y.A (.compStart (.ListComp e0 gs sc ps) (d + 1) j (.ref a) Y.env) R s)
  (hi : PI Y tg it wi) (hg : PG Y tg g) (htt : BQ Y ifs tt) (hb : ED Y a (.ListComp e0 gs sc ps) (d + 1) body C B) (hZ : ∀ zs p,Z zs p -> C zs /\ p) : ED Y a (.ListComp e0 gs sc ps) d (fun jt => Hs (.ListComp e0 gs sc ps) d it jt (.ref a) Y.env) (fun _ => True) (Js Z wi g tt B) := by
 intro jt0 PB σ ys H s N P hPB gr _ h back
 obtain ⟨its,k,ee,v0⟩ := gr.at'
 have I0 := gr.pin A ee
 have base := hi _ s σ H _ I0 h
 rw [hx] at base
 refine ME hs (Ar base fun v9 s9 h9 => Ar h9 fun itv2 s10 h10 => ?_)
 obtain ⟨jt,fp,tn,J,H10,e10,I10,T,st10,f10,W,⟨m2,w2⟩,turn⟩ := h10
 subst e10
 have g10 := Ac.grown I10 gr.len v0
 have ne2 : ∀ b ∈ fp,b ≠ a /\ ∀ p ∈ PB,p.1 ≠ b := fun b hb => by
  obtain ⟨_,_,_,_,_,f5⟩ := f10 b hb
  exact ⟨fun z => f5 (a,Dz its k) (List.mem_append_right _ List.mem_cons_self) z.symm,fun p hp => f5 p (List.mem_append_right _ (List.mem_cons_of_mem _ hp))⟩
 have fpY : ∀ {o : Obj} {H' : Hp},(∀ b ∈ fp,H' b = none) -> ∀ b ∈ fp,Bs Y ((a,o) :: PB) H' b := fun {o H'} hn b hb => by
  obtain ⟨_,f1,f2',f3,f4,_⟩ := f10 b hb
  refine ⟨hn b hb,f1,f2',f3,f4,fun p hp e => ?_⟩
  rw [A.pn,List.nil_append] at hp
  rcases List.mem_cons.mp hp with rfl | hp
  ·exact (ne2 b hb).1 e.symm
  ·exact (ne2 b hb).2 p hp e
 have loop : codeAny (model Y.prog Y.w) Y.A (.compLoop (.ListComp e0 gs sc ps) (d + 1) (.ref jt) (.ref a) Y.env) (fun r s₆ => r = .ok .next /\ P s₆) s10 :=
  Jq A hPB ht hx hg htt hb hZ T (fun b hb => (ne2 b hb).1) fpY st10 g10 (fun b hb => (f10 b hb).1) w2 turn fun zs H' s' G n => ⟨rfl,back zs H' s' G n⟩
 exact hst loop (T.self _ 0 _ _ _ st10 loop)
theorem Jt {X : Cx} {tg iter e0 : Expr} {gs : List Comprehension} {ifs : List Expr} {scope : Scope} {pos pos' : Pos} {wi : TI} {g : TG} {tt : TT} {Bt : TB} {Cd : List V -> Prop} (Z : List V -> Prop -> Prop) {N' : List Str} {cap : List (Option Nat)} {use : Option (Value -> Sem Unit)} {Q' : Value -> Shared -> Prop} {body : Value -> Value -> Env -> Sem PySem.Fin}
  {pins : List (Addr × Obj)} {s : Shared} {σ : St} {H : Hp} {Q : List V -> Hp -> Prop}
  (hc : X.calm = true) (hi : PI X tg iter wi) (B : AM X.env.scope X.N scope N' cap) (hg : ∀ s H ex C,PG (AL X N' scope s H ex C) tg g) (ht : ∀ s H ex C,BQ (AL X N' scope s H ex C) ifs tt)
  (htn : ∀ itv acc env,compTurn (.ListComp e0 (⟨tg,iter,ifs,0⟩ :: gs) scope pos) 0 itv acc env = EC (.ListComp e0 (⟨tg,iter,ifs,0⟩ :: gs) scope pos) 0 tg iter ifs (body itv acc env) itv acc env)
  (hbd : ∀ s H ex C a,CV (AL X N' scope s H ex C) a -> ED (AL X N' scope s H ex C) a (.ListComp e0 (⟨tg,iter,ifs,0⟩ :: gs) scope pos) 0 (fun itv => body itv (.ref a) (AL X N' scope s H ex C).env) Cd Bt) (hZ : ∀ zs p,Z zs p -> Cd zs /\ p)
  (hs : ∀ x,foldedSetIterable iter X.env x = pure x) (I : Ac X pins σ H s)
  (h : wi σ H fun J H1 => ∃ W : Nat -> Nat -> List V -> Hp -> Prop,(∃ m,W 0 m [] H1) /\ ∀ i m ys H,W i m ys H -> (J.stop i H /\ Q ys H) \/ (J.go i H /\ Z ys (∃ N : List V -> Hp -> Prop,(∀ ys' H',N ys' H' -> ∃ m',m' < m /\ W (i + 1) m' ys' H') /\ ∀ x H',J.yld i H x H' -> g x (AJ cap σ) H' fun σ2 H2 => Keep (AJ cap σ) σ2 /\ tt σ2 H2 fun b H3 => br b (Bt σ2 ys H3 N) (N ys H3))))
  (fin : ∀ (acc C : Addr) (H : Hp) (ys : List V) (s' : Shared),H acc = none -> Ac X pins σ (upd H acc (.lst ys)) s' -> Fi X pins C (upd H acc (.lst ys)) s' -> Q ys H -> compPost (model X.prog X.w) X.A X.xe use Q' (.ref acc) C (.ok .next) s') :
  wpAny (model X.prog X.w) X.A (comprehension (.ListComp e0 (⟨tg,iter,ifs,0⟩ :: gs) scope pos) scope X.env pos' (newList []) false (eval iter X.env) use) Q' X.xe s := by
 have hclos : closureFor scope X.env = pure (AR X.env.cells scope.names []) := Hf fun y hy hf => I.ok.has y.1 (B.free y hy hf)
 refine wpAny_comprehension_free (cl := AR X.env.cells scope.names []) rfl hs hclos B.kind B.names (Ar (hi pins s σ H _ I h) fun v s1 h1 => Ar h1 fun itv s2 h2 => ?_)
 obtain ⟨it,fp,tn,J,H2,e,I2,T,st2,f2,W,⟨m0,w0⟩,turn⟩ := h2
 subst e
 refine wpAny_newObj_type (Jm ?_)
 dsimp only
 generalize hH3 : s2.heap.push { cls := .type "list",dict := none,data := .seq ([] : List Value).toArray } = h3
 have hsz3 : h3.objs.size = s2.heap.objs.size + 1 := by rw [<- hH3]; exact Heap.size_push ..
 have hk3 : ∀ b o,s2.heap.get? b = some o -> h3.get? b = some o := fun b o e => by rw [<- hH3]; exact Heap.get?_push_of_some _ e
 have hacc3 : h3.get? s2.heap.objs.size = some { cls := .type "list",data := .seq ([] : List Value).toArray } := by rw [<- hH3]; exact Heap.get?_push_size _ rfl
 have hlt : ∀ b ∈ fp,b < s2.heap.objs.size := fun b hb => let ⟨o,e,_⟩ := T.obj _ _ st2 b hb; Heap.lt_size e
 have I4 := Jo I2 B f2 hlt hk3 (by rw [hsz3]; exact Nat.le_succ _)
 have acc4 : (pushCells (h3.push { cls := .type "dict",data := .dict #[] }) scope.names).get? s2.heap.objs.size = some { cls := .type "list",data := .seq ([] : List Value).toArray } := pushCells_keeps _ _ _ _ (Heap.get?_push_of_some _ hacc3)
 have st4 : tn 0 (pushCells (h3.push { cls := .type "dict",data := .dict #[] }) scope.names) := T.keep _ _ _ st2 fun b _ o e => pushCells_keeps _ _ _ _ (Heap.get?_push_of_some _ (hk3 b o e))
 have haC : s2.heap.objs.size ≠ h3.objs.size := by rw [hsz3]; exact Nat.ne_of_lt (Nat.lt_succ_self _)
 have haN : s2.heap.objs.size ∉ AE X.stack := fun z => by
  rcases List.mem_cons.mp (I2.stkSub _ z) with q | q
  ·exact absurd I2.lt (by rw [<- q]; exact Nat.lt_irrefl _)
  ·exact I2.nofs (Nat.le_refl _) q
 have okY := I4.ok
 have fpY : ∀ {pins' : List (Addr × Obj)} {H' : Hp},(∀ b ∈ fp,H' b = none) -> (∀ p ∈ pins',p.1 = s2.heap.objs.size) -> ∀ b ∈ fp,Bs (AL X N' scope s2 H2 fp h3.objs.size) pins' H' b := fun {pins' H'} hn hp b hb =>
  ⟨hn b hb, (okY.exf b hb).1, okY.exfs b hb, .inl hb, (okY.exf b hb).2, fun p z e => by
   have z' : p ∈ pins' := z
   have := hlt b hb
   rw [<- e,hp p z'] at this
   exact Nat.lt_irrefl _ this⟩
 have cellNe : ∀ x c,(AL X N' scope s2 H2 fp h3.objs.size).env.cells.lookup x = some c -> c ≠ s2.heap.objs.size := fun x c ec z => by
  rcases DU scope.names (h3.objs.size + 1) _ ec with q' | q'
  ·rw [z,hsz3] at q'
   exact absurd q' (by omega)
  ·have ec' : X.env.cells.lookup x = some c := (Da _ _ q').elim id fun z => nomatch z
   obtain ⟨_,q''⟩ := I2.cell x c ec'
   have := q''.lt
   rw [z] at this
   exact Nat.lt_irrefl _ this
 have loop : ∀ s4 : Shared,s4 = { s2 with heap := pushCells (h3.push { cls := .type "dict",data := .dict #[] }) scope.names } ->
   codeAny (model X.prog X.w) X.A (.compLoop (.ListComp e0 (⟨tg,iter,ifs,0⟩ :: gs) scope pos) 0 (.ref it) (.ref s2.heap.objs.size) (Ho scope X.env h3.objs.size)) (compPost (model X.prog X.w) X.A X.xe use Q' (.ref s2.heap.objs.size) h3.objs.size) s4 := by
  rintro s4 rfl
  have A0 : CV (AL X N' scope s2 H2 fp h3.objs.size) s2.heap.objs.size := ⟨haC,haN,.inr (Nat.le_refl _),cellNe,rfl,hc⟩
  refine Jq (Y := AL X N' scope s2 H2 fp h3.objs.size) (PB := []) (W := W) A0 (fun p hp => absurd hp (by simp)) (fun _ => htn _ _ _) rfl (hg _ _ _ _) (ht _ _ _ _) (hbd _ _ _ _ _ A0) hZ T (fun b hb z => absurd (hlt b hb) (by rw [z]; exact Nat.lt_irrefl _))
   (fun {o H'} hn b hb => fpY hn (fun p hp => by rw [List.mem_singleton.mp hp]) b hb) st4 ⟨I4,I2.hok.fresh (Nat.le_refl _),Nat.zero_le _,[],0,acc4,.nil⟩ (fun b hb => (f2 b hb).1) w0 turn fun ys H5 s6 G q => ?_
  obtain ⟨its,k,e6,v5⟩ := G.at'
  have fa5 := G.no
  have z5 := G.len
  have I6 := G.inv
  have nacc : ∀ b u,H5 b = some u -> b ≠ s2.heap.objs.size := fun b u q z => by rw [z,fa5] at q; cases q
  have un : Un (AE X.stack) fp H2 (upd H5 s2.heap.objs.size (.lst ys)) s2.heap s6.heap := by
   have u := I6.base
   refine ⟨u.keep,u.slot,fun b o q n hx => ?_,u.there,fun b xs q => ?_,fun b o xs q => ?_,fun b ps q => ?_⟩
   ·rw [Ap (Nat.ne_of_lt (Heap.lt_size q))]
    exact u.free b o q n hx
   ·have z := u.tups b xs q
    rw [Ap (nacc b _ z)]; exact z
   ·have z := u.frzs b o xs q
    rw [Ap (nacc b _ z)]; exact z
   ·obtain ⟨more,z⟩ := u.tbls b ps q
    exact ⟨more,by rw [Ap (nacc b _ z)]; exact z⟩
  have hok : HOk X.prog X.w (upd H5 s2.heap.objs.size (.lst ys)) s6.heap := fun b u q => by
   by_cases hb : b = s2.heap.objs.size
   ·subst hb
    rw [Ai] at q; cases q
    exact ⟨z5,its,k,v5,e6⟩
   ·rw [Ap hb] at q
    have o6 : ObjOk X.prog X.w H5 s6.heap b u := I6.hok b u q
    exact o6.stay (fun _ _ _ e => e) (fun c z => by rw [Ap (nacc c _ z)]; exact z) fun c xs z => by rw [Ap (nacc c _ z)]; exact z
  have IX : Ac X pins σ (upd H5 s2.heap.objs.size (.lst ys)) s6 := I2.call' (show s6.os = s2.os from I6.os) un hok I6.bare fun b hb => let f := f2 b hb; ⟨f.2.2.2.1,f.2.1,f.2.2.2.2.1,f.2.2.2.2.2⟩
  have hCs : s2.heap.objs.size <= h3.objs.size := by rw [hsz3]; exact Nat.le_succ _
  refine fin _ _ H5 ys s6 fa5 IX ⟨let ⟨m,hn,_⟩ := I6.loc; ⟨m,hn⟩,?_,?_,Nat.le_trans I2.sz hCs,fun x c ec z => ?_,fun p hp z => ?_⟩ q
  ·rw [Ap (Ne.symm haC)]; exact I6.free
  ·exact Nat.ne_of_gt (Nat.lt_of_lt_of_le I2.lt hCs)
  ·obtain ⟨_,q⟩ := I2.cell x c ec
   have := q.lt
   rw [z] at this
   exact absurd (Nat.lt_of_lt_of_le this hCs) (Nat.lt_irrefl _)
  ·have := Heap.lt_size (I2.pin p hp).1
   rw [z] at this
   exact absurd (Nat.lt_of_lt_of_le this hCs) (Nat.lt_irrefl _)
 exact codeAny_compStart_list (loop _ rfl) (T.self _ 0 _ _ _ st4 (loop _ rfl))
theorem Ju {X : Cx} {tg iter elt : Expr} {ifs : List Expr} {scope : Scope} {pos pos' : Pos} {wi : TI} {g : TG} {tt : TT} {te : TE} {N' : List Str} {cap : List (Option Nat)} {use : Option (Value -> Sem Unit)} {Q' : Value -> Shared -> Prop}
  {pins : List (Addr × Obj)} {s : Shared} {σ : St} {H : Hp} {Q : List V -> Hp -> Prop}
  (hc : X.calm = true) (hi : PI X tg iter wi) (B : AM X.env.scope X.N scope N' cap) (hg : ∀ s H ex C,PG (AL X N' scope s H ex C) tg g) (ht : ∀ s H ex C,BQ (AL X N' scope s H ex C) ifs tt) (he : ∀ s H ex C,PE (AL X N' scope s H ex C) elt te)
  (hs : ∀ x,foldedSetIterable iter X.env x = pure x) (I : Ac X pins σ H s) (h : Hr wi cap g tt te σ H Q)
  (fin : ∀ (acc C : Addr) (H : Hp) (ys : List V) (s' : Shared),H acc = none -> Ac X pins σ (upd H acc (.lst ys)) s' -> Fi X pins C (upd H acc (.lst ys)) s' -> Q ys H -> compPost (model X.prog X.w) X.A X.xe use Q' (.ref acc) C (.ok .next) s') :
  wpAny (model X.prog X.w) X.A (comprehension (.ListComp elt [⟨tg,iter,ifs,0⟩] scope pos) scope X.env pos' (newList []) false (eval iter X.env) use) Q' X.xe s :=
 Jt Jp (body := fun itv acc env => Fj (.ListComp elt [⟨tg,iter,ifs,0⟩] scope pos) 0 elt itv acc env) (Bt := Ht te) hc hi B hg ht (fun _ _ _ => rfl) (fun s H ex C a A => Jr A rfl (he s H ex C)) (fun _ _ z => z) hs I h fin
def MJ (wi : TI) (cap : List (Option Nat)) (g : TG) (tt : TT) (te : TE) : TE := fun σ H Q => Hr wi cap g tt te σ H fun ys H' => ∀ p,H' p = none -> Q (.ref p) (upd H' p (.lst ys))
theorem BD {X : Cx} {tg iter elt : Expr} {ifs : List Expr} {scope : Scope} {pos : Pos} {wi : TI} {g : TG} {tt : TT} {te : TE} (N' : List Str) (cap : List (Option Nat))
  (hc : X.calm = true) (hi : PI X tg iter wi) (B : AM X.env.scope X.N scope N' cap) (hg : ∀ s H ex C,PG (AL X N' scope s H ex C) tg g) (ht : ∀ s H ex C,BQ (AL X N' scope s H ex C) ifs tt) (he : ∀ s H ex C,PE (AL X N' scope s H ex C) elt te)
  (hs : ∀ x,foldedSetIterable iter X.env x = pure x := by intro _; rfl) : PE X (.ListComp elt [⟨tg,iter,ifs,0⟩] scope pos) (MJ wi cap g tt te) := by
 intro pins s σ H Q I h
 rw [eval_ListComp]
 refine Ju (use := none) hc hi B hg ht he hs I h fun acc C H ys s' hn I' L q => ?_
 obtain ⟨m,hm⟩ := L.ns
 refine ⟨m,hm,fun h' hsb => ⟨.ref acc,_,I'.turned (t' := s'.toks) (it := C) (fun b o hb e => hsb.extBut b o hb e) L.free L.loc (.inr L.sz) L.cell L.pin,rfl,q acc hn⟩⟩
def MK (i : Nat) (wi : TI) (cap : List (Option Nat)) (g : TG) (tt : TT) (te : TE) : TS := fun D σ H => Hr wi cap g tt te σ H fun ys H' => ∀ p,H' p = none -> D.nx (σ.set i (some (.ref p))) (upd H' p (.lst ys))
theorem Jv {X : Cx} {i : Nat} {y : Str} {tg iter elt : Expr} {ifs : List Expr} {scope : Scope} {pos pos' pos'' : Pos} (N' : List Str) (cap : List (Option Nat)) (hN : X.N.Nodup) (hin : X.N[i]? = some y) (hy : Dq X.env.scope y)
  (hc : X.calm = true) (hi : PI X tg iter wi) (B : AM X.env.scope X.N scope N' cap) (hg : ∀ s H ex C,PG (AL X N' scope s H ex C) tg g) (ht : ∀ s H ex C,BQ (AL X N' scope s H ex C) ifs tt) (he : ∀ s H ex C,PE (AL X N' scope s H ex C) elt te)
  (hsw : swapsWith (.ListComp elt [⟨tg,iter,ifs,0⟩] scope pos) (some (.Name y pos')) pos''.line X.env = pure true := by rfl)
  (hf : X.fn y = true \/ X.env.scope.names.lookup y = some .local := by first | exact .inl rfl | exact .inr rfl | assumption)
  (hs : ∀ x,foldedSetIterable iter X.env x = pure x := by intro _; rfl) : PS X (.Assign [.Name y pos'] (.ListComp elt [⟨tg,iter,ifs,0⟩] scope pos) pos'') (MK i wi cap g tt te) := by
 intro pins s σ H D I h
 rw [exec_Assign_Name_used _ _ _ _ hsw]
 refine wpAny_bind (wpAny_standAt (wpAny_bind ?_))
 show wpAny _ X.A (do let _ <- comprehension (.ListComp elt [⟨tg,iter,ifs,0⟩] scope pos) scope X.env _ (newList []) false (eval iter X.env) (some (assign (.Name y pos') X.env))) _ _ s
 refine wpAny_bind (wpAny_mono (Ju (use := some (assign (.Name y pos') X.env)) (Q' := fun _ s' => SP X pins D .next s') hc hi B hg ht he hs I h fun acc C H ys s' hn I' L q => ?_) (fun _ s' hq => wpAny_pure (wpAny_pure hq)) fun _ _ e => e)
 obtain ⟨m,hm⟩ := L.ns
 refine wpAny_assign_Name (GJ I' hN hin hy (show Aw (.ref acc) (.ref acc) from rfl) (fun s'' I'' ⟨a,sb,ha⟩ => ?_) hf)
 have hCa : C ≠ a := by
  rcases ha with e | e
  ·rw [e]; exact L.loc
  ·exact fun z => L.cell _ _ e z.symm
 refine ⟨m,hm.sameBut sb hCa,fun h' hsb => ?_⟩
 exact ⟨_,_,I''.turned (t' := s''.toks) (it := C) (fun b o hb e => hsb.extBut b o hb e) L.free L.loc (.inr L.sz) L.cell L.pin,q acc hn⟩
def DA (J : It) (cap : List (Option Nat)) (g : TG) (tt : TT) (te : TE) (σ : St) (Q : List V -> Hp -> Prop) (H1 : Hp) : Prop :=
 ∃ W : Nat -> Nat -> List V -> Hp -> Prop,(∃ m,W 0 m [] H1) /\ ∀ i m ys H,W i m ys H ->
  (J.stop i H /\ Q ys H) \/
  (J.go i H /\ ys.length < sizeLine /\ ∃ N : List V -> Hp -> Prop, (∀ ys' H', N ys' H' -> ∃ m', m' < m /\ W (i + 1) m' ys' H') /\ ∀ x H', J.yld i H x H' -> g x (AJ cap σ) H' fun σ2 H2 => Keep (AJ cap σ) σ2 /\ tt σ2 H2 fun b H3 =>
   br b (te σ2 H3 fun y H4 => N (ys ++ [y]) H4) (N ys H3))
theorem DV {J : It} (n : Nat) (Pv : Nat -> List V -> Hp -> Prop) (hn : n <= 100000) (h0 : Pv 0 [] H) (hz : ∀ i ys H,Pv i ys H -> ys.length <= i)
  (hs : ∀ i ys H,i < n -> Pv i ys H -> J.go i H /\ ∀ x H',J.yld i H x H' -> g x (AJ cap σ) H' fun σ2 H2 => Keep (AJ cap σ) σ2 /\ tt σ2 H2 fun b H3 => br b (te σ2 H3 fun y H4 => Pv (i + 1) (ys ++ [y]) H4) (Pv (i + 1) ys H3))
  (hd : ∀ ys H,Pv n ys H -> J.stop n H /\ Q ys H) : DA J cap g tt te σ Q H := by
 refine ⟨fun i m ys H => m = n - i /\ i <= n /\ Pv i ys H,⟨n,by simp,Nat.zero_le _,h0⟩,?_⟩
 rintro i m ys H ⟨rfl,hi,p⟩
 by_cases hlt : i < n
 ·obtain ⟨a,b⟩ := hs i ys H hlt p
  refine .inr ⟨a,?_,Pv (i + 1),fun ys' H' p' => ⟨n - (i + 1),by omega,rfl,hlt,p'⟩,b⟩
  have := hz i ys H p
  have : (100000 : Nat) < sizeLine := by decide
  omega
 ·have e : i = n := by omega
  subst e
  exact .inl (hd ys H p)
theorem CA {K : PySem.W.Frag} (Pv : Nat -> List V -> Hp -> Prop) (hn : xs.length <= 100000) (h0 : Pv 0 [] H) (hz : ∀ i ys H,Pv i ys H -> ys.length <= i)
  (hl : ∀ i ys H,i <= xs.length -> Pv i ys H -> Af K H a xs)
  (hs : ∀ i x ys H,xs[i]? = some x -> Pv i ys H -> g x (AJ cap σ) H fun σ2 H2 => Keep (AJ cap σ) σ2 /\ tt σ2 H2 fun b H3 => br b (te σ2 H3 fun y H4 => Pv (i + 1) (ys ++ [y]) H4) (Pv (i + 1) ys H3))
  (hd : ∀ ys H,Pv xs.length ys H -> Q ys H) : DA (Ds K a) cap g tt te σ Q H :=
 DV xs.length Pv hn h0 hz (fun i ys H hi p => ⟨⟨xs,xs[i],hl i ys H (Nat.le_of_lt hi) p,by simp [hi]⟩,fun x H' ⟨e,y⟩ => by subst e; exact hs i x ys _ (y xs (hl i ys _ (Nat.le_of_lt hi) p)) p⟩)
  fun ys H p => ⟨⟨xs,hl _ ys H (Nat.le_refl _) p,Nat.le_refl _⟩,hd ys H p⟩
theorem Jw {K : PySem.W.Frag} (Pv : Nat -> List V -> Hp -> Prop) (hn : xs.length <= 100000) (h0 : Pv 0 [] H) (hz : ∀ i ys H,Pv i ys H -> ys.length <= i)
  (hl : ∀ i ys H,i <= xs.length -> Pv i ys H -> Am K H a xs)
  (hs : ∀ i x ys H,xs[i]? = some x -> Pv i ys H -> g x (AJ cap σ) H fun σ2 H2 => Keep (AJ cap σ) σ2 /\ tt σ2 H2 fun b H3 => br b (te σ2 H3 fun y H4 => Pv (i + 1) (ys ++ [y]) H4) (Pv (i + 1) ys H3))
  (hd : ∀ ys H,Pv xs.length ys H -> Q ys H) : DA (DO K a) cap g tt te σ Q H :=
 DV xs.length Pv hn h0 hz (fun i ys H hi p => ⟨⟨xs,xs[i],hl i ys H (Nat.le_of_lt hi) p,by simp [hi]⟩,fun x H' ⟨e,y⟩ => by subst e; exact hs i x ys _ (y xs (hl i ys _ (Nat.le_of_lt hi) p)) p⟩)
  fun ys H p => ⟨⟨xs,hl _ ys H (Nat.le_refl _) p,Nat.le_refl _⟩,hd ys H p⟩
theorem Jx {lo : Int} {n : Nat} (Pv : Nat -> List V -> Hp -> Prop) (hn : n <= 100000) (h0 : Pv 0 [] H) (hz : ∀ i ys H,Pv i ys H -> ys.length <= i)
  (hs : ∀ i ys H,i < n -> Pv i ys H -> g (.int (lo + i)) (AJ cap σ) H fun σ2 H2 => Keep (AJ cap σ) σ2 /\ tt σ2 H2 fun b H3 => br b (te σ2 H3 fun y H4 => Pv (i + 1) (ys ++ [y]) H4) (Pv (i + 1) ys H3))
  (hd : ∀ ys H,Pv n ys H -> Q ys H) : DA (CK lo n) cap g tt te σ Q H :=
 DV n Pv hn h0 hz (fun i ys H hi p => ⟨hi,fun x H' ⟨e,y⟩ => by subst e y; exact hs i ys _ hi p⟩) fun ys H p => ⟨Nat.le_refl _,hd ys H p⟩
end L2
end
section
namespace L2
open PySem PySem.Spec PyProof.Rows
open AutoSeq1 (wpAny_loadPart')
section
variable {prog : Program} {w : World} {A : Around} {E : Value -> Shared -> Prop} {s : Shared}
theorem ML {it t : Addr} {i : Nat} {items : Array Value} {x : Value} {Q : Value -> Shared -> Prop} (hit : s.heap.IsTupleIter it t i) (ht : s.heap.IsTuple t items) (hx : items[i]? = some x)
  (hQ : ∀ h',h'.IsTupleIter it t (i + 1) -> Heap.SameBut it s.heap h' -> Q x { s with heap := h' }) : wpAny (model prog w) A (Builtin.SmallTypes.nextOf (.ref it)) Q E s := by
 obtain ⟨o,ho,hc,hd⟩ := id hit; obtain ⟨ol,hol,_,nl,hdl⟩ := ht; unfold Builtin.SmallTypes.nextOf
 refine wpAny_bind (wpAny_callSpecial?_slot (name := Str.ofString "__next__") hit.typeIs F.slot_tuple_iterator_next (wpAny_call_entry F.slot_tuple_iterator_next hit.typeIs F.entry_tuple_iterator_next ?_ (F.args_tuple_iterator_next_1 _)))
 show wpAny _ _ (field (.ref it) 0 >>= _) _ _ s; refine wpAny_bind (wpAny_field ho hd (x := .ref t) rfl ?_)
 show wpAny _ _ (if (Value.ref t == Value.none) = true then _ else _) _ _ s; rw [if_neg (show ¬ ((Value.ref t == Value.none) = true) from Bool.false_ne_true)]
 show wpAny _ _ (field (.ref it) 1 >>= _) _ _ s; refine wpAny_bind (wpAny_field ho hd (x := .int i 0) rfl ?_)
 show wpAny _ _ (seqItems? (.ref t) >>= _) _ _ s; refine wpAny_bind (wpAny_seqItems hol hdl ?_); simp only [Int.toNat_natCast,hx]
 refine wpAny_bind (wpAny_setField ho hd (by simp) (wpAny_pure ⟨x,rfl,wpAny_pure (hQ _ ?_ (Heap.SameBut.update ..))⟩)); exact ⟨_,Heap.get?_update_self _ ho (Obj.isFreed_of_fields (Obj.data_mapFields hd _)),(Obj.cls_mapFields ..).trans hc,by rw [Obj.data_mapFields hd]; simp [rawInt]⟩
theorem MM {it t : Addr} {i : Nat} {items : Array Value} {Q : Value -> Shared -> Prop} (hh : A.handled = none) (hit : s.heap.IsTupleIter it t i) (ht : s.heap.IsTuple t items) (hx : items[i]? = none)
  (hE : ∀ h' e,Heap.ExtBut it s.heap h' -> (∃ o,h'.get? e = some o /\ o.cls = .type "StopIteration") -> E (.ref e) { s with heap := h' }) : wpAny (model prog w) A (Builtin.SmallTypes.nextOf (.ref it)) Q E s := by
 obtain ⟨o,ho,hc,hd⟩ := id hit; obtain ⟨ol,hol,_,nl,hdl⟩ := ht; unfold Builtin.SmallTypes.nextOf
 refine wpAny_bind (wpAny_callSpecial?_slot (name := Str.ofString "__next__") hit.typeIs F.slot_tuple_iterator_next (wpAny_call_entry F.slot_tuple_iterator_next hit.typeIs F.entry_tuple_iterator_next ?_ (F.args_tuple_iterator_next_1 _)))
 show wpAny _ _ (field (.ref it) 0 >>= _) _ _ s; refine wpAny_bind (wpAny_field ho hd (x := .ref t) rfl ?_)
 show wpAny _ _ (if (Value.ref t == Value.none) = true then _ else _) _ _ s; rw [if_neg (show ¬ ((Value.ref t == Value.none) = true) from Bool.false_ne_true)]
 show wpAny _ _ (field (.ref it) 1 >>= _) _ _ s; refine wpAny_bind (wpAny_field ho hd (x := .int i 0) rfl ?_)
 show wpAny _ _ (seqItems? (.ref t) >>= _) _ _ s; refine wpAny_bind (wpAny_seqItems hol hdl ?_); simp only [Int.toNat_natCast,hx]
 refine wpAny_bind (wpAny_rule (wpAny_bind (wpAny_setField ho hd (by simp) ?_))); show wpAny _ _ (newExc (.type "StopIteration") [] >>= _) _ _ _
 refine wpAny_bind ?_; simp only [newExc,newTuple]; refine wpAny_bind (wpAny_newObj_type ?_ (by size_fits))
 refine wpAny_bind (m := firstArgMember _ _) (wpAny_of_eq (a := Value.none) (by first | rfl | (simp only [firstArgMember]; rfl)) ?_); refine wpAny_newObj_type ?_ (by size_fits); simp only [raiseNew]
 refine wpAny_bind (wpAny_handled ?_); first | rw [show A.in1.handled = none from hh] | rw [hh]
 refine wpAny_bind (wpAny_pure (wpAny_throw ?_)); exact hE _ _ (((Heap.SameBut.update ..).extBut.push _).push _) ⟨_,Heap.get?_push_size _ rfl,rfl⟩
end
structure Be (P : Program) (w : World) (K : PySem.W.Frag) where
 Sq : Hp -> Addr -> List V -> Prop
 It : Heap -> Addr -> Addr -> Nat -> Prop
 Is : Heap -> Addr -> Array Value -> Prop
 obj : Addr -> Obj
 get : ∀ {X : Cx} {pins : List (Addr × Obj)} {σ : St} {H : Hp} {s : Shared} {a : Addr} {xs : List V},X.K = K -> Ac X pins σ H s -> Sq H a xs -> ∃ its : List Value,At xs its /\ Is s.heap a its.toArray /\ xs.length <= sizeLine
 inj : ∀ {X : Cx} {pins : List (Addr × Obj)} {σ : St} {H : Hp} {s : Shared} {a : Addr} {xs ys : List V},X.K = K -> Ac X pins σ H s -> Sq H a xs -> Sq H a ys -> xs = ys
 draws : ∀ (A : Around),A.handled = none -> ∀ (it l : Addr),l ≠ it -> ∀ items : Array Value,Draws P w A it [it,l] items.size (fun i v => items[i]? = some v) (fun i h => It h it l i /\ Is h l items)
 ito : ∀ {h : Heap} {it l : Addr} {i : Nat},It h it l i -> ∃ o,h.get? it = some o /\ ∀ v,o.data ≠ .cell v
 itk : ∀ {h h' : Heap} {it l : Addr} {i : Nat},It h it l i -> (∀ o,h.get? it = some o -> h'.get? it = some o) -> It h' it l i
 isk : ∀ {h h' : Heap} {l : Addr} {items : Array Value},Is h l items -> (∀ o,h.get? l = some o -> h'.get? l = some o) -> Is h' l items
 iso : ∀ {h : Heap} {l : Addr} {items : Array Value},Is h l items -> ∃ o,h.get? l = some o
 ok : Prop
 itn : ok -> ∀ (h : Heap) (l : Addr),It (h.push (obj l)) h.objs.size l 0
def Hu (P : Program) (w : World) (K : PySem.W.Frag) : Be P w K where
 Sq := fun H a xs => Am K H a xs
 It := fun h it l i => h.IsListIter it l i
 Is := fun h l items => h.IsList l items
 obj := fun l => { cls := .type "list_iterator",data := .fields #[.ref l,.int 0 0] }
 get := fun {X pins σ H s a xs} hK I q => by subst hK; obtain ⟨its,r,p,z⟩ := I.list q; exact ⟨its,r,p.isList,z⟩
 inj := fun {X pins σ H s a xs ys} hK I q q' => by subst hK; exact I.list_inj q q'
 draws := fun A hh it l hne items => Draws.list hh it l hne items
 ito := fun {h it l i} ⟨o,e,c,d⟩ => ⟨o,e,fun v z => by rw [d] at z; cases z⟩
 itk := fun {h h' it l i} x k => x.at k
 isk := fun {h h' l items} x k => x.at k
 iso := fun {h l items} ⟨o,e,_⟩ => ⟨o,e⟩
 ok := True
 itn := fun _ h l => ⟨_,Heap.get?_push_size _ rfl,rfl,rfl⟩
def Cg (P : Program) (w : World) (K : PySem.W.Frag) : Be P w K where
  Sq := fun H a xs => Af K H a xs
  It := fun h it l i => h.IsTupleIter it l i
  Is := fun h l items => h.IsTuple l items
  obj := fun l => { cls := .type "tuple_iterator",data := .fields #[.ref l,.int 0 0] }
  get := fun {X pins σ H s a xs} hK I q => by subst hK; obtain ⟨its,r,p,z⟩ := I.tuple q; exact ⟨its,r,p,z⟩
  inj := fun {X pins σ H s a xs ys} hK I q q' => by subst hK; exact I.tuple_inj q q'
  draws := fun A hh it l hne items =>
    { live := fun _ _ st => let ⟨o,ho,_⟩ := st.1; ⟨o,ho⟩
      frame := fun _ _ _ st hk => ⟨let ⟨o,e,r⟩ := st.1; ⟨o,hk it (by simp) o e,r⟩,let ⟨o,e,r⟩ := st.2; ⟨o,hk l (by simp) o e,r⟩⟩
      item := fun i s Q E hi st hQ => ML st.1 st.2 (x := items[i]) (by simp [hi]) fun h' hit' hs' => hQ _ h' s.toks (by simp [hi]) ⟨hit',st.2.extBut hs'.extBut hne⟩ hs'
      done := fun s Q E st hE => MM hh st.1 st.2 (by simp) hE }
  ito := fun {h it l i} ⟨o,e,c,d⟩ => ⟨o,e,fun v z => by rw [d] at z; cases z⟩
  itk := fun {h h' it l i} ⟨o,e,r⟩ k => ⟨o,k o e,r⟩
  isk := fun {h h' l items} ⟨o,e,r⟩ k => ⟨o,k o e,r⟩
  iso := fun {h l items} ⟨o,e,_⟩ => ⟨o,e⟩
  ok := True
  itn := fun _ h l => ⟨_,Heap.get?_push_size _ rfl,rfl,rfl⟩
end L2
end
section
namespace L2
open PySem PySem.Spec PyProof.Rows
variable {X : Cx} {pins : List (Addr × Obj)} {σ : St} {H : Hp} {s : Shared} {wr : List Addr} {h' : Heap}
open AutoSeq1 (wpAny_loadPart')
theorem Ac.yielded {tk : Nat} {T : Addr} {vs : List V} {us : List Value} (I : Ac X pins σ H s) (hf : ∀ b ∈ wr,Bs X pins H b)
  (k : ∀ b o,b ∉ wr -> s.heap.get? b = some o -> h'.get? b = some o) (hT : s.heap.objs.size <= T) (ht : IsTup h' T us.toArray) (rv : At vs us) (hz : vs.length <= sizeLine) :
  Ac X pins σ (upd H T (.tup vs)) { s with heap := h',toks := tk } := by
 have hfr : H T = none := I.hok.fresh hT
 have nT : ∀ b u,H b = some u -> b ≠ T := fun b u e => Bd e hfr
 have nW : ∀ b u,H b = some u -> b ∉ wr := fun b u e z => by have := (hf b z).1; rw [e] at this; cases this
 refine I.step (g' := s.gens) (d' := s.drawn) (ch := wr) (fun b hb => let f := hf b hb; ⟨f.2.2.2.1,f.2.1,f.2.2.2.2.1,f.2.2.2.2.2⟩) (fun b o _ _ hc e _ => k b o hc e) (fun b o _ _ hc e _ => ⟨o.slots,k b o hc e⟩)
  (fun b o hc e n => ?_) (fun b o hc e => ⟨o,k b o hc e⟩) (fun b xs e => by rw [Ap (nT b _ e)]; exact e) (fun b o xs e => by rw [Ap (nT b _ e)]; exact e) (fun b ps e => ⟨#[],by rw [Ap (nT b _ e),e]; simp⟩) (fun m hm => ?_) (fun b u e => ?_) I.bare
 ·rw [Ap (Nat.ne_of_lt (Nat.lt_of_lt_of_le (Heap.lt_size e) hT))]; exact n
 ·obtain ⟨o,es,ep,ho,r⟩ := hm
  exact ⟨o,es,ep,k _ o (fun z => (hf _ z).2.1 rfl) ho,r⟩
 ·by_cases hb : b = T
  ·subst hb
   rw [Ai] at e; cases e
   exact ⟨hz,us,rv,ht⟩
  ·rw [Ap hb] at e
   refine (I.hok b u e).stay (fun c v hc q => k c v ?_ q) (fun c q => by rw [Ap (nT c _ q)]; exact q) fun c xs q => by rw [Ap (nT c _ q)]; exact q
   rcases hc with z | z
   ·rw [z]; exact nW b u e
   ·exact nW c _ z
theorem Ac.ended {tk : Nat} (I : Ac X pins σ H s) (hf : ∀ b ∈ wr,Bs X pins H b)
  (k : ∀ b o,b ∉ wr -> s.heap.get? b = some o -> h'.get? b = some o) : Ac X pins σ H { s with heap := h',toks := tk } := by
 have nW : ∀ b u,H b = some u -> b ∉ wr := fun b u e z => by have := (hf b z).1; rw [e] at this; cases this
 refine I.step (g' := s.gens) (d' := s.drawn) (ch := wr) (fun b hb => let f := hf b hb; ⟨f.2.2.2.1,f.2.1,f.2.2.2.2.1,f.2.2.2.2.2⟩) (fun b o _ _ hc e _ => k b o hc e) (fun b o _ _ hc e _ => ⟨o.slots,k b o hc e⟩)
  (fun b o hc e n => n) (fun b o hc e => ⟨o,k b o hc e⟩) (fun b xs e => e) (fun b o xs e => e) (fun b ps e => ⟨#[],by rw [e]; simp⟩) (fun m hm => ?_) (fun b u e => ?_) I.bare
 ·obtain ⟨o,es,ep,ho,r⟩ := hm
  exact ⟨o,es,ep,k _ o (fun z => (hf _ z).2.1 rfl) ho,r⟩
 ·refine (I.hok b u e).stay (fun c v hc q => k c v ?_ q) (fun c q => q) fun c xs q => q
  rcases hc with z | z
  ·rw [z]; exact nW b u e
  ·exact nW c _ z
def DW {P : Program} {w : World} {K : PySem.W.Frag} (S : Be P w K) (a : Addr) : It :=
 ⟨fun i H => ∃ xs x,S.Sq H a xs /\ xs[i]? = some x,fun i H v H' => ∃ T,v = .ref T /\ H T = none /\ ∀ xs x,S.Sq H a xs -> xs[i]? = some x -> H' = upd H T (.tup [.int i,x]),fun i H => ∃ xs,S.Sq H a xs /\ xs.length = i⟩
theorem MN {P : Program} {w : World} {K : PySem.W.Frag} (S : Be P w K) {es : List Expr} {k : Nat} {pos : Pos} (a e it : Addr) (hei : e ≠ it) (hai : a ≠ it) (hae : a ≠ e) :
  CJ P w K (.Tuple es k pos) (DW S a) [e,it] e (fun i h => (∃ old,IsEnum h e it (i : Nat) old) /\ S.It h it a i) where
 mem := by simp
 obj := fun i h st b hb => by
  obtain ⟨⟨old,he⟩,hi⟩ := st
  rcases List.mem_cons.mp hb with z | hb
  ·rw [z]; exact ⟨_,he,fun v z => by
    have z' : Data.fields _ = Data.cell v := z
    cases z'⟩
  ·rw [List.mem_singleton.mp hb]; exact S.ito hi
 keep := fun i h h' st kk => by
  obtain ⟨⟨old,he⟩,hi⟩ := st
  exact ⟨⟨old,kk e (by simp) _ he⟩,S.itk hi fun o q => kk it (by simp) o q⟩
 item := by
  intro X hP hw hK hc i pins s σ H E I hf st hg
  subst hP hw
  obtain ⟨xs,x,hq,hx⟩ := hg
  obtain ⟨its,rv,is,hz⟩ := S.get hK I hq
  obtain ⟨u,hu,ru⟩ := rv.get hx
  have W := WalksT.enumerateD (S.draws X.A.in1 (I.ok.hd hc) it a hai its.toArray) e hei (by simp [hei,Ne.symm hae]) (by simp)
  have hi : i < its.toArray.size := by have := (List.getElem?_eq_some_iff.mp hu).1; simpa using this
  refine W.item i s _ _ hi ⟨st.1,st.2,is⟩ fun T vals h1 tk hp hT htup hmid hk => ⟨_,rfl,?_⟩
  obtain ⟨t,y,hy,hv⟩ := hp
  have ey : y = u := by
   have q : its.toArray[i]? = some u := by simpa using hu
   rw [q] at hy; exact (Option.some.inj hy).symm
  subst ey hv
  refine W.go es k pos i T { s with heap := h1,toks := tk } _ _ hmid fun h2 st2 hk2 => ?_
  have kk : ∀ b o,b ∉ [e,it] -> s.heap.get? b = some o -> h2.get? b = some o := fun b o hb q => hk2 b o hb (hk b o hb q)
  have htup2 : IsTup h2 T [Value.int i t,y].toArray := by
   obtain ⟨o,q,r⟩ := htup
   exact ⟨o,hk2 T o (W.apart i T h1 hmid) q,r⟩
  exact ⟨.ref T,upd H T (.tup [.int i,x]),I.yielded (tk := tk) (fun b hb => hf b hb) kk hT htup2 (.cons ⟨t,rfl⟩ (.cons ru .nil)) (by show 2 <= sizeLine; decide),rfl,
   ⟨T, rfl, I.hok.fresh hT, fun ys z hy hz => by
    rw [S.inj hK I hy hq,hx] at hz; cases hz; rfl⟩,⟨st2.1,st2.2.1⟩,fun b hb => by
    have hbt : b < s.heap.objs.size := by
     rcases List.mem_cons.mp hb with z | hb
     ·rw [z]; obtain ⟨old,q⟩ := st.1; exact Heap.lt_size q
     ·rw [List.mem_singleton.mp hb]; obtain ⟨o,q,_⟩ := S.ito st.2; exact Heap.lt_size q
    rw [Ap (Nat.ne_of_lt (Nat.lt_of_lt_of_le hbt hT))]; exact (hf b hb).1⟩
 done := by
  intro X hP hw hK hc i pins s σ H E I hf st hg
  subst hP hw
  obtain ⟨xs,hq,hx⟩ := hg
  obtain ⟨its,rv,is,hz⟩ := S.get hK I hq
  have W := WalksT.enumerateD (S.draws X.A.in1 (I.ok.hd hc) it a hai its.toArray) e hei (by simp [hei,Ne.symm hae]) (by simp)
  have hn : its.toArray.size = i := by have := rv.length; simp; omega
  rw [hn] at W
  exact W.done s _ _ ⟨st.1,st.2,is⟩ fun h' tk hk => ⟨rfl,I.ended (tk := tk) (fun b hb => hf b hb) hk⟩
 self := fun _ _ _ _ _ st h => by
  obtain ⟨⟨old,he⟩,_⟩ := st
  exact wpAny_pyIter_enum he h
theorem MO (l : Addr) (items : Array Value) :
    Meets (Builtin.«enumerate.__new__» ⟨[.type "enumerate",.ref l],[]⟩) (fun _ R s => s.heap.IsTuple l items /\ R (.ok (.ret (.ref (s.heap.push { cls := .type "tuple_iterator",data := .fields #[.ref l,.int 0 0] }).objs.size)))
        { s with heap := (s.heap.push { cls := .type "tuple_iterator",data := .fields #[.ref l,.int 0 0] }).push { cls := .type "enumerate",data := .fields #[.none,.bool false,.ref s.heap.objs.size,rawInt 0,.none,.none] } }) :=
  .of_wp fun prog w A R s h => by
    obtain ⟨hp,g,d,tk,os⟩ := s; obtain ⟨hl0,h⟩ := h
    obtain ⟨⟨c0,dct,dt,sl⟩,hl,hc0,n,hd0⟩ := id hl0; replace hc0 : c0 = .type "tuple" := hc0; replace hd0 : dt = .seq items n := hd0; subst hc0 hd0
    have hsub := sub_enumerate; have hL : Heap.IsTuple (Shared.heap ⟨hp,g,d,tk,os⟩) l items := ⟨_,hl,rfl,n,rfl⟩
    wp_walk using wpAny_loadPart' hl
    refine wpAny_stack_any fun st => wpAny_pure ?_; split
    . rename_i c _ _ _ _ _; cases (c == Value.type "enumerate")
      . wp_walk using wpAny_loadPart' hl,wpAny_pyIter_tuple hL; exact ⟨_,rfl,h⟩
      . wp_walk using wpAny_loadPart' hl,wpAny_pyIter_tuple hL; exact ⟨_,rfl,h⟩
    . wp_walk using wpAny_loadPart' hl,wpAny_pyIter_tuple hL; exact ⟨_,rfl,h⟩
theorem MP {prog : Program} {w : World} {A : Around} {E : Value -> Shared -> Prop} {s : Shared} {l : Addr} {items : Array Value} {Q : Value -> Shared -> Prop} (hL : s.heap.IsTuple l items)
  (h : ∀ h',IsEnum h' (s.heap.objs.size + 1) s.heap.objs.size 0 .none -> h'.IsTupleIter s.heap.objs.size l 0 -> h'.objs.size = s.heap.objs.size + 2 -> (∀ b o,s.heap.get? b = some o -> h'.get? b = some o) -> Q (.ref (s.heap.objs.size + 1)) { s with heap := h' }) :
  wpAny (model prog w) A (call (.type "enumerate") [.ref l]) Q E s := by
 refine callType_new F.called_enumerate (by decide) (F.typeCall_enumerate_1 _) (F.newCall_enumerate_1 _) (fun obj => F.args_object_init_2 obj _) F.entry_enumerate_new (MO l items) ⟨hL,?_⟩
 have hz : (s.heap.push { cls := .type "tuple_iterator",data := .fields #[.ref l,.int 0 0] }).objs.size = s.heap.objs.size + 1 := Heap.size_push ..
 show _ /\ _; rw [hz]
 have he : IsEnum ((s.heap.push { cls := .type "tuple_iterator",data := .fields #[.ref l,.int 0 0] }).push { cls := .type "enumerate",data := .fields #[.none,.bool false,.ref s.heap.objs.size,rawInt 0,.none,.none] }) (s.heap.objs.size + 1) s.heap.objs.size 0 .none := by
  have := Heap.get?_push_size (s.heap.push { cls := .type "tuple_iterator",data := .fields #[.ref l,.int 0 0] }) (o := { cls := .type "enumerate",data := .fields #[.none,.bool false,.ref s.heap.objs.size,rawInt 0,.none,.none] }) rfl
  rw [hz] at this; exact this
 exact ⟨⟨_,he,rfl⟩,h _ he ⟨_,Heap.get?_push_of_some _ (Heap.get?_push_size _ rfl),rfl,rfl⟩ (by rw [Heap.size_push,hz]) fun b o x => Heap.get?_push_of_some _ (Heap.get?_push_of_some _ x)⟩
def Jy {P : Program} {w : World} {K : PySem.W.Frag} (S : Be P w K) (ta : TA) : TI := fun σ H R => ta σ H fun vs H1 => ∃ a,vs = [.ref a] /\ (∃ xs,S.Sq H1 a xs) /\ R (DW S a) H1
theorem MQ {es : List Expr} {k : Nat} {p pos pos' : Pos} {a : Expr} {ta : TA} (hg : Gl X "enumerate") (hm : X.mg "enumerate" = none) (ha : PA X [a] ta) (hs : starEach [a] X.env = [(false,eval a X.env)] := by rfl) :
  PI X (.Tuple es k pos') (.Call (.Name "enumerate" p) [a] [] pos) (Jy (Cg X.prog X.w X.K) ta) := by
 intro pins s σ H R I h
 refine Call_ (Cq I hg hm boot_enumerate (PyProof.Rows.callWith_type1 (Ar (ha pos pins s σ H _ I h) fun us s1 ⟨vs,H1,I1,r1,q1⟩ => ?_) hs rfl))
 obtain ⟨l,e,⟨xs,hq⟩,q⟩ := q1
 subst e
 obtain ⟨u,rfl,ru⟩ := r1.one
 cases ru
 obtain ⟨its,rv,is,hz⟩ := I1.tuple hq
 obtain ⟨ol,hol,hol2⟩ := id is
 have hlt := Heap.lt_size hol
 refine MP (items := its.toArray) ⟨ol,hol,hol2⟩ fun h' hE hI hsz hk => ?_
 have I2 : Ac X pins σ H1 { s1 with heap := h' } := I1.kept (t' := s1.toks) hk
 refine wpAny_pyIter_enum hE ⟨s1.heap.objs.size + 1,[s1.heap.objs.size + 1,s1.heap.objs.size],_,_,H1,rfl,I2,MN (Cg X.prog X.w X.K) l (s1.heap.objs.size + 1) s1.heap.objs.size (Nat.succ_ne_self _) (Nat.ne_of_lt hlt) (Nat.ne_of_lt (Nat.lt_succ_of_lt hlt)),⟨⟨_,hE⟩,hI⟩,fun b hb => ?_,q⟩
 rcases List.mem_cons.mp hb with z | hb
 ·rw [z]; exact I1.fpOk (Nat.le_succ _) (I1.hok.fresh (Nat.le_succ _))
 ·rw [List.mem_singleton.mp hb]; exact I1.fpOk (Nat.le_refl _) (I1.hok.fresh (Nat.le_refl _))
end L2
end
section
namespace L2
open PySem PySem.Spec PyProof.Rows
variable {k : Nat} {z : Addr} {a1 a2 : Value} {X : Cx} {p pos pos' : Pos} {e1 e2 : Expr} {ta : TA}
open AutoSeq1 (wpAny_loadPart')
def Dr {P : Program} {w : World} {K : PySem.W.Frag} (S : Be P w K) (it l : Addr) (xs : Array Value) (k : Nat) (h : Heap) : Prop := S.It h it l k /\ S.Is h l xs
theorem Dr.ext {P : Program} {w : World} {K : PySem.W.Frag} {S : Be P w K} {it l b : Addr} {xs : Array Value} {h h' : Heap} (d : Dr S it l xs k h) (e : Heap.ExtBut b h h') (h1 : it ≠ b) (h2 : l ≠ b) : Dr S it l xs k h' :=
 ⟨S.itk d.1 fun o q => e it o h1 q,S.isk d.2 fun o q => e l o h2 q⟩
abbrev Ch (h : Heap) (z TI TO : Addr) (f0 f1 : Value) : Prop := h.get? z = some { cls := .type "zip",dict := none,data := .fields #[f0,f1,.bool false,.ref TI,.ref TO],slots := #[] }
def Fl (h : Heap) (z TI TO : Addr) : Prop := ∃ f0 f1,Ch h z TI TO f0 f1 /\ (f0 = .none \/ ∃ T : Addr,f0 = rawInt T) /\ (f1 = .bool false \/ f1 = .bool true)
theorem MR {M : Model} {A : Around} {E : Value -> Shared -> Prop} {s : Shared} {a : Addr} {Q : Option Obj -> Shared -> Prop} (h : Q (s.heap.get? a) s) : wpAny M A (loadIfAlive a) Q E s := fun _ _ _ => h
theorem Jz {P : Program} {w : World} {A : Around} {E : Value -> Shared -> Prop} {s : Shared} {TI TO : Addr} {Q : Bool -> Shared -> Prop} (hz : Fl s.heap z TI TO) (h1 : ∀ f0 f1,Ch s.heap z TI TO f0 f1 -> Q true s)
  (h2 : ∀ g0,∀ T : Addr,∀ f1 f2,Ch s.heap z TI TO (rawInt T) f1 -> Ch g0 z TI TO (rawInt T) f2 -> (f2 = .bool false \/ f2 = .bool true) -> Heap.SameBut z s.heap g0 -> Q false { s with heap := g0 }) :
  wpAny (model P w) A (Builtin.SmallTypes.ownedTupleIsFree (.ref z)) Q E s := by
 obtain ⟨f0,f1,hz,hf0,hf1⟩ := hz
 unfold Builtin.SmallTypes.ownedTupleIsFree
 refine wpAny_bind (wpAny_field hz rfl (x := f0) rfl ?_)
 rcases hf0 with rfl | ⟨T,rfl⟩
 ·exact wpAny_pure (h1 _ _ hz)
 ·show wpAny _ _ (loadIfAlive T >>= _) _ _ _
  refine wpAny_bind (MR ?_)
  cases hTa : s.heap.get? T with
  | none =>
   simp only [Option.isNone_none,if_true]
   exact wpAny_pure (h1 _ _ hz)
  | some oT =>
   simp only [Option.isNone_some,Bool.false_eq_true,if_false]
   show wpAny _ _ (field (.ref z) 1 >>= _) _ _ _
   refine wpAny_bind (wpAny_field hz rfl (x := f1) rfl ?_)
   rcases hf1 with rfl | rfl
   ·exact wpAny_bind (wpAny_setField_rec hz (by simp) fun g0 hz0 hs0 => wpAny_pure (h2 g0 T _ _ hz hz0 (.inr rfl) hs0))
   ·exact wpAny_bind (wpAny_pure (wpAny_pure (h2 s.heap T _ _ hz hz (.inr rfl) ⟨rfl,fun _ _ => rfl⟩)))
structure Fm (z TI TO i1 i2 l1 l2 : Addr) : Prop where
 TI_z : TI ≠ z
 TO_z : TO ≠ z
 TO_TI : TO ≠ TI
 i1_z : i1 ≠ z
 i1_TI : i1 ≠ TI
 i1_TO : i1 ≠ TO
 i2_z : i2 ≠ z
 i2_TI : i2 ≠ TI
 i2_TO : i2 ≠ TO
 i2_i1 : i2 ≠ i1
 l1_z : l1 ≠ z
 l1_TO : l1 ≠ TO
 l1_i1 : l1 ≠ i1
 l1_i2 : l1 ≠ i2
 l2_z : l2 ≠ z
 l2_TO : l2 ≠ TO
 l2_i1 : l2 ≠ i1
 l2_i2 : l2 ≠ i2
abbrev Bx (h : Heap) (T : Addr) (a1 a2 : Value) : Prop := h.get? T = some { cls := .type "tuple",data := .seq #[a1,a2] }
theorem JA {prog : Program} {w : World} {A : Around} {E : Value -> Shared -> Prop} {s : Shared} {T : Addr} {x : Value} {Q : Unit -> Shared -> Prop} (hT : Bx s.heap T a1 a2)
  (h : ∀ h',h'.get? T = some { cls := .type "tuple",data := .seq ((#[a1,a2] : Array Value).setIfInBounds k x) } -> Heap.SameBut T s.heap h' -> Q () { s with heap := h' }) :
  wpAny (model prog w) A (updateSeq T (·.setIfInBounds k x)) Q E s := by
 have got := Heap.get?_update_self (Obj.mapSeq fun y => y.setIfInBounds k x) hT rfl
 exact wpAny_updateSeq hT rfl (h _ (got.trans (by simp [Obj.mapSeq])) (Heap.SameBut.update ..))
section
variable {P : Program} {w : World} {K : PySem.W.Frag} {A : Around} {E : Value -> Shared -> Prop} {s : Shared} (S1 S2 : Be P w K)
theorem MS {z TI TO i1 i2 l1 l2 : Addr} {k : Nat} {xs1 xs2 : Array Value} {x1 x2 a1 a2 : Value} {Q : Value -> Shared -> Prop} (hh : A.handled = none) (D : Fm z TI TO i1 i2 l1 l2) (hz : Fl s.heap z TI TO) (hTI : Bx s.heap TI (.ref i1) (.ref i2)) (hTO : Bx s.heap TO a1 a2) (h1 : Dr S1 i1 l1 xs1 k s.heap) (h2 : Dr S2 i2 l2 xs2 k s.heap) (hx1 : xs1[k]? = some x1) (hx2 : xs2[k]? = some x2)
  (hQ : ∀ h' tk, Fl h' z TI TO -> (IsZip h' z TI TO (rawInt s.heap.objs.size) \/ IsZip s.heap z TI TO .none -> IsZip h' z TI TO (rawInt s.heap.objs.size)) -> (∃ a1 a2, Bx h' TO a1 a2) -> Dr S1 i1 l1 xs1 (k + 1) h' -> Dr S2 i2 l2 xs2 (k + 1) h' -> Bx h' s.heap.objs.size x1 x2 -> h'.objs.size = s.heap.objs.size + 1 ->
   (∀ c o,c ≠ z -> c ≠ TO -> c ≠ i1 -> c ≠ i2 -> s.heap.get? c = some o -> h'.get? c = some o) -> Q (.ref s.heap.objs.size) { s with heap := h',toks := tk }) :
  wpAny (model P w) A (Builtin.«zip.__next__» ⟨[.ref z],[]⟩) (fun fin s' => ∃ v,fin = .done (.ret v) /\ Q v s') E s := by
 have hl1 : k < xs1.size := (Array.getElem?_eq_some_iff.mp hx1).1
 have hl2 : k < xs2.size := (Array.getElem?_eq_some_iff.mp hx2).1
 have D1 := fun (A : Around) (hh : A.handled = none) => S1.draws A hh i1 l1 D.l1_i1 xs1
 have D2 := fun (A : Around) (hh : A.handled = none) => S2.draws A hh i2 l2 D.l2_i2 xs2
 obtain ⟨f0',f1',hz',hf0',hf1'⟩ := id hz
 show wpAny _ _ (field (.ref z) 2 >>= _) _ _ _; refine wpAny_bind (wpAny_field hz' rfl (x := .bool false) rfl ?_)
 show wpAny _ _ (field (.ref z) 3 >>= _) _ _ _; refine wpAny_bind (wpAny_field hz' rfl (x := .ref TI) rfl ?_)
 refine wpAny_bind (wpAny_seqItems hTI rfl ?_); show wpAny _ _ (Builtin.SmallTypes.ownedTupleIsFree (.ref z) >>= _) _ _ _
 refine wpAny_bind (Jz hz (fun f0 f1 hz => ?_) fun g0 T f1 f2 hzs hz0 hf2 hs0 => ?_)
 ·simp only [if_true]
  refine wpAny_bind (wpAny_rule ?_); refine wpAny_bind (wpAny_field hz rfl (x := .ref TO) rfl ?_)
  refine wpAny_bind (wpAny_setField_rec hz (by simp) fun g0 hz0 hs0 => ?_); replace hz0 : Ch g0 z TI TO .ellipsis f1 := hz0
  refine wpAny_bind ?_; simp only [List.zipIdx_cons,List.zipIdx_nil,List.forIn_cons,List.forIn_nil]
  refine wpAny_bind (wpAny_bind (wpAny_onRaise ?_)); show wpAny _ _ (Builtin.SmallTypes.nextOf (.ref i1) >>= _) _ _ _
  refine wpAny_bind ((D1 _ hh).item k _ _ _ hl1 (Dr.ext h1 hs0.extBut D.i1_z D.l1_z) fun y1 g1 tk1 hy1 hd1 hs1 => wpAny_pure ?_)
  have ex1 : y1 = x1 := by rw [hx1] at hy1; exact (Option.some.inj hy1).symm
  subst ex1
  have hd1' : Dr S1 i1 l1 xs1 (k + 1) g1 := hd1
  have hT1 : Bx g1 TO a1 a2 := (hs1.extBut _ _ D.i1_TO.symm (hs0.extBut _ _ D.TO_z hTO))
  refine wpAny_bind (wpAny_seqItems hT1 rfl ?_); refine wpAny_bind (JA hT1 fun g2 hU1 hs2 => ?_)
  replace hU1 : Bx g2 TO y1 a2 := hU1
  refine wpAny_bind (wpAny_letGo (wpAny_pure ?_))
  refine wpAny_bind (wpAny_bind (wpAny_onRaise ?_)); show wpAny _ _ (Builtin.SmallTypes.nextOf (.ref i2) >>= _) _ _ _
  refine wpAny_bind ((D2 _ hh).item k _ _ _ hl2 (Dr.ext (Dr.ext (Dr.ext h2 hs0.extBut D.i2_z D.l2_z) hs1.extBut D.i2_i1 D.l2_i1) hs2.extBut D.i2_TO D.l2_TO) fun y2 g3 tk2 hy2 hd2 hs3 => wpAny_pure ?_)
  have ex2 : y2 = x2 := by rw [hx2] at hy2; exact (Option.some.inj hy2).symm
  subst ex2
  have hd2' : Dr S2 i2 l2 xs2 (k + 1) g3 := hd2
  have hT2 : Bx g3 TO y1 a2 := (hs3.extBut _ _ D.i2_TO.symm hU1)
  refine wpAny_bind (wpAny_seqItems hT2 rfl ?_); refine wpAny_bind (JA hT2 fun g4 hU2 hs4 => ?_)
  replace hU2 : Bx g4 TO y1 y2 := hU2
  refine wpAny_bind (wpAny_letGo (wpAny_pure (wpAny_pure ?_)))
  refine wpAny_bind (wpAny_seqItems hU2 rfl ?_); refine wpAny_bind (wpAny_newTuple ?_)
  have hsz : g4.objs.size = s.heap.objs.size := by rw [hs4.1,hs3.1,hs2.1,hs1.1,hs0.1]
  have hz5 : Ch g4 z TI TO .ellipsis f1 := (hs4.extBut _ _ D.TO_z.symm (hs3.extBut _ _ D.i2_z.symm (hs2.extBut _ _ D.TO_z.symm (hs1.extBut _ _ D.i1_z.symm hz0))))
  have hk5 : ∀ c o,c ≠ z -> c ≠ TO -> c ≠ i1 -> c ≠ i2 -> s.heap.get? c = some o -> g4.get? c = some o := fun c o cz cTO ci1 ci2 e => (hs4.extBut _ _ cTO (hs3.extBut _ _ ci2 (hs2.extBut _ _ cTO (hs1.extBut _ _ ci1 (hs0.extBut _ _ cz e)))))
  have he1 : Dr S1 i1 l1 xs1 (k + 1) g4 := (Dr.ext (Dr.ext (Dr.ext hd1' hs2.extBut D.i1_TO D.l1_TO) hs3.extBut D.i2_i1.symm D.l1_i2) hs4.extBut D.i1_TO D.l1_TO)
  have he2 : Dr S2 i2 l2 xs2 (k + 1) g4 := (Dr.ext hd2' hs4.extBut D.i2_TO D.l2_TO)
  have hzlt : z < g4.objs.size := Heap.lt_size hz5
  show wpAny _ _ (Builtin.SmallTypes.ownedTupleHandOut (.ref z) (.ref g4.objs.size) >>= _) _ _ _; refine wpAny_bind ?_; unfold Builtin.SmallTypes.ownedTupleHandOut
  have hz6 : Ch (g4.push { cls := .type "tuple",data := .seq #[y1,y2] }) z TI TO .ellipsis f1 := Heap.get?_push_of_some _ hz5
  refine wpAny_bind (wpAny_setField_rec hz6 (by simp) fun ga hza hsa => ?_); replace hza : Ch ga z TI TO (rawInt g4.objs.size) f1 := hza
  refine wpAny_setField_rec hza (by simp) fun gb hzb hsb => ?_; replace hzb : Ch gb z TI TO (rawInt g4.objs.size) (.bool false) := hzb
  have up : ∀ c o,c ≠ z -> g4.get? c = some o -> gb.get? c = some o := fun c o c1 e => hsb.extBut _ _ c1 (hsa.extBut _ _ c1 (Heap.get?_push_of_some _ e))
  have hTb : Bx gb g4.objs.size y1 y2 := hsb.extBut _ _ (Nat.ne_of_gt hzlt) (hsa.extBut _ _ (Nat.ne_of_gt hzlt) (Heap.get?_push_size _ rfl))
  have hsb8 : gb.objs.size = g4.objs.size + 1 := by rw [hsb.1,hsa.1,Heap.size_push]
  have upE : Heap.ExtBut z g4 gb := fun c o c1 e => up c o c1 e
  rw [hsz] at hzb hTb hsb8
  refine wpAny_pure ⟨_,rfl,?_⟩; show Q (.ref g4.objs.size) _; rw [hsz]
  exact hQ gb _ ⟨_,_,hzb,.inr ⟨_,rfl⟩,.inl rfl⟩ (fun _ => hzb) ⟨_,_,up _ _ D.TO_z hU2⟩ (he1.ext upE D.i1_z D.l1_z) (he2.ext upE D.i2_z D.l2_z) hTb hsb8 fun c o cz cTO ci1 ci2 e => up c o cz (hk5 c o cz cTO ci1 ci2 e)
 ·simp only [Bool.false_eq_true,if_false]
  refine wpAny_bind ?_; simp only [<- Array.forIn_toList,List.forIn_cons,List.forIn_nil]
  refine wpAny_bind (wpAny_bind (wpAny_holding ?_)); show wpAny _ _ (Builtin.SmallTypes.nextOf (.ref i1) >>= _) _ _ _
  refine wpAny_bind ((D1 _ hh).item k _ _ _ hl1 (Dr.ext h1 hs0.extBut D.i1_z D.l1_z) fun y1 g1 tk1 hy1 hd1 hs1 => wpAny_pure ?_)
  have ex1 : y1 = x1 := by rw [hx1] at hy1; exact (Option.some.inj hy1).symm
  subst ex1
  have hd1' : Dr S1 i1 l1 xs1 (k + 1) g1 := hd1
  refine wpAny_pure ?_
  refine wpAny_bind (wpAny_bind (wpAny_holding ?_)); show wpAny _ _ (Builtin.SmallTypes.nextOf (.ref i2) >>= _) _ _ _
  refine wpAny_bind ((D2 _ hh).item k _ _ _ hl2 (Dr.ext (Dr.ext h2 hs0.extBut D.i2_z D.l2_z) hs1.extBut D.i2_i1 D.l2_i1) fun y2 g2 tk2 hy2 hd2 hs2 => wpAny_pure ?_)
  have ex2 : y2 = x2 := by rw [hx2] at hy2; exact (Option.some.inj hy2).symm
  subst ex2
  have hd2' : Dr S2 i2 l2 xs2 (k + 1) g2 := hd2
  refine wpAny_pure (wpAny_pure ?_)
  show wpAny _ _ (newTuple [y1,y2] >>= _) _ _ _; refine wpAny_bind (wpAny_newTuple ?_)
  have hsz : g2.objs.size = s.heap.objs.size := by rw [hs2.1,hs1.1,hs0.1]
  have hz5 : Ch g2 z TI TO (rawInt T) f2 := (hs2.extBut _ _ D.i2_z.symm (hs1.extBut _ _ D.i1_z.symm hz0))
  have hT5 : Bx g2 TO a1 a2 := (hs2.extBut _ _ D.i2_TO.symm (hs1.extBut _ _ D.i1_TO.symm (hs0.extBut _ _ D.TO_z hTO)))
  have he1 : Dr S1 i1 l1 xs1 (k + 1) g2 := (Dr.ext hd1' hs2.extBut D.i2_i1.symm D.l1_i2)
  have he2 : Dr S2 i2 l2 xs2 (k + 1) g2 := hd2'
  have hTb : Bx (g2.push { cls := .type "tuple",data := .seq #[y1,y2] }) g2.objs.size y1 y2 := Heap.get?_push_size _ rfl
  have hb8 : (g2.push { cls := .type "tuple",data := .seq #[y1,y2] }).objs.size = g2.objs.size + 1 := Heap.size_push ..
  refine wpAny_pure ⟨_,rfl,?_⟩; show Q (.ref g2.objs.size) _
  have res := hQ (g2.push { cls := .type "tuple",data := .seq #[y1,y2] }) tk2 ⟨_,_,Heap.get?_push_of_some _ hz5,.inr ⟨_,rfl⟩,hf2⟩ (fun c => c.elim id fun c => absurd (congrArg (fun o : Obj => o.data) (Option.some.inj (hzs.symm.trans c))) (by simp [rawInt])) ⟨_,_,Heap.get?_push_of_some _ hT5⟩ ⟨S1.itk he1.1 fun o q => Heap.get?_push_of_some _ q,S1.isk he1.2 fun o q => Heap.get?_push_of_some _ q⟩ ⟨S2.itk he2.1 fun o q => Heap.get?_push_of_some _ q,S2.isk he2.2 fun o q => Heap.get?_push_of_some _ q⟩ (by rw [<- hsz]; exact hTb) (by rw [hb8,hsz]) fun c o cz cTO ci1 ci2 e => Heap.get?_push_of_some _ (hs2.extBut _ _ ci2 (hs1.extBut _ _ ci1 (hs0.extBut _ _ cz e)))
  rw [hsz]; exact res
theorem MT {TI TO i1 i2 l1 l2 : Addr} {xs1 xs2 : Array Value} {Q : Fin -> Shared -> Prop} (hh : A.handled = none) (D : Fm z TI TO i1 i2 l1 l2) (hz : Fl s.heap z TI TO) (hTI : Bx s.heap TI (.ref i1) (.ref i2)) (hTO : Bx s.heap TO a1 a2) (h1 : Dr S1 i1 l1 xs1 k s.heap) (h2 : Dr S2 i2 l2 xs2 k s.heap)  (hend : k = xs1.size)
  (hE : ∀ h' tk e,(∀ c o,c ≠ z -> c ≠ TO -> c ≠ i1 -> c ≠ i2 -> s.heap.get? c = some o -> h'.get? c = some o) -> (∃ o,h'.get? e = some o /\ o.cls = .type "StopIteration") -> E (.ref e) { s with heap := h',toks := tk }) :
  wpAny (model P w) A (Builtin.«zip.__next__» ⟨[.ref z],[]⟩) Q E s := by
 have D1 := fun (A : Around) (hh : A.handled = none) => S1.draws A hh i1 l1 D.l1_i1 xs1
 have D2 := fun (A : Around) (hh : A.handled = none) => S2.draws A hh i2 l2 D.l2_i2 xs2
 obtain ⟨f0',f1',hz',hf0',hf1'⟩ := id hz
 show wpAny _ _ (field (.ref z) 2 >>= _) _ _ _; refine wpAny_bind (wpAny_field hz' rfl (x := .bool false) rfl ?_)
 show wpAny _ _ (field (.ref z) 3 >>= _) _ _ _; refine wpAny_bind (wpAny_field hz' rfl (x := .ref TI) rfl ?_)
 refine wpAny_bind (wpAny_seqItems hTI rfl ?_); show wpAny _ _ (Builtin.SmallTypes.ownedTupleIsFree (.ref z) >>= _) _ _ _
 refine wpAny_bind (Jz hz (fun f0 f1 hz => ?_) fun g0 T f1 f2 hzs hz0 hf2 hs0 => ?_)
 ·simp only [if_true]
  refine wpAny_bind (wpAny_rule ?_); refine wpAny_bind (wpAny_field hz rfl (x := .ref TO) rfl ?_)
  refine wpAny_bind (wpAny_setField_rec hz (by simp) fun g0 hz0 hs0 => ?_); replace hz0 : Ch g0 z TI TO .ellipsis f1 := hz0
  refine wpAny_bind ?_; simp only [List.zipIdx_cons,List.zipIdx_nil,List.forIn_cons,List.forIn_nil]
  refine wpAny_bind (wpAny_bind (wpAny_onRaise ?_)); show wpAny _ _ (Builtin.SmallTypes.nextOf (.ref i1) >>= _) _ _ _
  have hcur := (Dr.ext h1 hs0.extBut D.i1_z D.l1_z)
  subst hend
  refine wpAny_bind ((D1 _ hh).done _ _ _ hcur fun ge e hse he => ?_)
  obtain ⟨oe,hoe,hce⟩ := he
  have hze : Ch ge z TI TO .ellipsis f1 := hse _ _ D.i1_z.symm hz0
  have hez : e ≠ z := fun x => by subst x; rw [hze] at hoe; cases hoe; simp at hce
  exact wpAny_setField_rec hze (by simp) fun gf _ hsf => hE gf _ e (fun c o cz cTO ci1 ci2 x => hsf.extBut _ _ cz (hse _ _ ci1 (hs0.extBut _ _ cz x))) ⟨oe,hsf.extBut _ _ hez hoe,hce⟩
 ·simp only [Bool.false_eq_true,if_false]
  refine wpAny_bind ?_; simp only [<- Array.forIn_toList,List.forIn_cons,List.forIn_nil]
  refine wpAny_bind (wpAny_bind (wpAny_holding ?_)); show wpAny _ _ (Builtin.SmallTypes.nextOf (.ref i1) >>= _) _ _ _
  have hcur := (Dr.ext h1 hs0.extBut D.i1_z D.l1_z)
  subst hend
  refine wpAny_bind ((D1 _ hh).done _ _ _ hcur fun ge e hse he => ?_)
  obtain ⟨oe,hoe,hce⟩ := he
  exact hE ge _ e (fun c o cz cTO ci1 ci2 x => hse _ _ ci1 (hs0.extBut _ _ cz x)) ⟨oe,hoe,hce⟩
end
abbrev Fo {P : Program} {w : World} {K : PySem.W.Frag} (S1 S2 : Be P w K) (h : Heap) (l1 l2 : Addr) : Heap := (h).push (S1.obj l1)
abbrev Fp {P : Program} {w : World} {K : PySem.W.Frag} (S1 S2 : Be P w K) (h : Heap) (l1 l2 : Addr) : Heap := (Fo S1 S2 h l1 l2).push (S2.obj l2)
abbrev Fq {P : Program} {w : World} {K : PySem.W.Frag} (S1 S2 : Be P w K) (h : Heap) (l1 l2 : Addr) : Heap := (Fp S1 S2 h l1 l2).push { cls := .type "tuple",data := .seq #[.ref h.objs.size,.ref (Fo S1 S2 h l1 l2).objs.size] }
abbrev Fr {P : Program} {w : World} {K : PySem.W.Frag} (S1 S2 : Be P w K) (h : Heap) (l1 l2 : Addr) : Heap := (Fq S1 S2 h l1 l2).push { cls := .type "tuple",data := .seq #[.none,.none] }
abbrev CW {P : Program} {w : World} {K : PySem.W.Frag} (S1 S2 : Be P w K) (h : Heap) (l1 l2 : Addr) : Heap := (Fr S1 S2 h l1 l2).push { cls := .type "zip",data := .fields #[.none,.bool false,.bool false,.ref (Fp S1 S2 h l1 l2).objs.size,.ref (Fq S1 S2 h l1 l2).objs.size] }
def Fs {P : Program} {w : World} {K : PySem.W.Frag} (S1 S2 : Be P w K) : Prop := S1.ok /\ S2.ok /\ ∀ (l1 l2 : Addr) (xs1 xs2 : Array Value),
  Meets (Builtin.«zip.__new__» ⟨[.type "zip",.ref l1,.ref l2],[]⟩) (fun _ R s => S1.Is s.heap l1 xs1 /\ S2.Is s.heap l2 xs2 /\ R (.ok (.ret (.ref (Fr S1 S2 s.heap l1 l2).objs.size))) { s with heap := CW S1 S2 s.heap l1 l2 })
theorem MU {X : Cx} {p pos : Pos} {e1 e2 : Expr} {ta : TA} (S1 S2 : Be X.prog X.w X.K) (zn : Fs S1 S2) (hg : Gl X "zip") (hm : X.mg "zip" = none) (ha : PA X [e1,e2] ta) (hs1 : starEach [e1,e2] X.env = [(false,eval e1 X.env),(false,eval e2 X.env)]) (hs2 : starEach [e2] X.env = [(false,eval e2 X.env)])
  {pins : List (Addr × Obj)} {s : Shared} {σ : St} {H : Hp} {R : Addr -> Addr -> Hp -> Prop} (I : Ac X pins σ H s) (h : ta σ H fun vs H1 => ∃ l1 l2,vs = [.ref l1,.ref l2] /\ (∃ xs,S1.Sq H1 l1 xs) /\ (∃ xs,S2.Sq H1 l2 xs) /\ R l1 l2 H1) :
  wpAny (model X.prog X.w) X.A (eval (.Call (.Name "zip" p) [e1,e2] [] pos) X.env) (fun v s1 => ∃ l1 l2 H1,∃ m : Nat,v = .ref (m + 4) /\ R l1 l2 H1 /\ Ac X pins σ H1 s1 /\ IsZip s1.heap (m + 4) (m + 2) (m + 3) .none /\ Bx s1.heap (m + 2) (.ref m) (.ref (m + 1)) /\ Bx s1.heap (m + 3) .none .none /\ S1.It s1.heap m l1 0 /\ S2.It s1.heap (m + 1) l2 0 /\ l1 < m /\ l2 < m /\ (∀ b,m <= b -> Bs X pins H1 b) /\ s1.heap.objs.size = m + 5) X.xe s := by
 refine Call_ (Cq I hg hm boot_zip (PyProof.Rows.callWith_type1 (Ar (ha pos pins s σ H _ I h) fun us s1 ⟨vs,H1,I1,r1,q1⟩ => ?_) (by rw [hs1,hs2]) (by rw [hs2]; rfl)))
 obtain ⟨l1,l2,e,⟨xs1,hq1⟩,⟨xs2,hq2⟩,q⟩ := q1
 subst e
 rcases r1 with _ | ⟨ru1,r1⟩
 rcases r1 with _ | ⟨ru2,r1⟩
 cases r1
 cases ru1; cases ru2
 obtain ⟨its1,rv1,is1,_⟩ := S1.get rfl I1 hq1
 obtain ⟨its2,rv2,is2,_⟩ := S2.get rfl I1 hq2
 obtain ⟨o1,ho1⟩ := S1.iso is1
 have hl1 := Heap.lt_size ho1
 obtain ⟨o2,ho2⟩ := S2.iso is2
 have hl2 := Heap.lt_size ho2
 refine callType_new F.called_zip (by decide) (F.typeCall_zip_2 _ _) (F.newCall_zip_2 _ _) (fun obj => F.args_object_init_3 obj _ _) F.entry_zip_new (zn.2.2 l1 l2 its1.toArray its2.toArray) ⟨is1,is2,?_⟩
 have z1 : (Fo S1 S2 s1.heap l1 l2).objs.size = s1.heap.objs.size + 1 := by rw [Heap.size_push]
 have z2 : (Fp S1 S2 s1.heap l1 l2).objs.size = s1.heap.objs.size + 2 := by rw [Heap.size_push,z1]
 have z3 : (Fq S1 S2 s1.heap l1 l2).objs.size = s1.heap.objs.size + 3 := by rw [Heap.size_push,z2]
 have z4 : (Fr S1 S2 s1.heap l1 l2).objs.size = s1.heap.objs.size + 4 := by rw [Heap.size_push,z3]
 have zz : (CW S1 S2 s1.heap l1 l2).objs.size = s1.heap.objs.size + 5 := by rw [Heap.size_push,z4]
 have gz : (CW S1 S2 s1.heap l1 l2).get? (Fr S1 S2 s1.heap l1 l2).objs.size = some _ := Heap.get?_push_size _ rfl
 have gO : (CW S1 S2 s1.heap l1 l2).get? (Fq S1 S2 s1.heap l1 l2).objs.size = some _ := Heap.get?_push_of_some _ (Heap.get?_push_size _ rfl)
 have gI : (CW S1 S2 s1.heap l1 l2).get? (Fp S1 S2 s1.heap l1 l2).objs.size = some _ := Heap.get?_push_of_some _ (Heap.get?_push_of_some _ (Heap.get?_push_size _ rfl))
 have g1 : S1.It (CW S1 S2 s1.heap l1 l2) s1.heap.objs.size l1 0 := S1.itk (S1.itn zn.1 _ _) fun o q => Heap.get?_push_of_some _ (Heap.get?_push_of_some _ (Heap.get?_push_of_some _ (Heap.get?_push_of_some _ (q))))
 have g2 : S2.It (CW S1 S2 s1.heap l1 l2) (Fo S1 S2 s1.heap l1 l2).objs.size l2 0 := S2.itk (S2.itn zn.2.1 _ _) fun o q => Heap.get?_push_of_some _ (Heap.get?_push_of_some _ (Heap.get?_push_of_some _ (q)))
 have kk : ∀ b o,s1.heap.get? b = some o -> (CW S1 S2 s1.heap l1 l2).get? b = some o := fun b o x => Heap.get?_push_of_some _ (Heap.get?_push_of_some _ (Heap.get?_push_of_some _ (Heap.get?_push_of_some _ (Heap.get?_push_of_some _ (x)))))
 show _ /\ _
 rw [z2,z3,z4] at gz; rw [z3] at gO; rw [z1,z2] at gI; rw [z4]
 rw [z1] at g2
 generalize CW S1 S2 s1.heap l1 l2 = hE at g1 g2 gI gO gz kk zz ⊢
 have I2 : Ac X pins σ H1 { s1 with heap := hE } := I1.kept (t' := s1.toks) kk
 exact ⟨⟨_,gz,rfl⟩,l1,l2,H1,s1.heap.objs.size,rfl,q,I2,gz,gI,gO,g1,g2,hl1,hl2,fun b hb => I1.fpOk hb (I1.hok.fresh hb),zz⟩
set_option maxHeartbeats 8000000 in
theorem MV (P : Program) (w : World) (K : PySem.W.Frag) : Fs (Cg P w K) (Hu P w K) := ⟨trivial,trivial,fun l1 l2 xs1 xs2 =>
 .of_wp fun prog w A R s h => by
  obtain ⟨hp,g,d,tk,os⟩ := s; obtain ⟨hl1,hl2,h⟩ := h; have hsub := sub_zip
  have hL1 : Heap.IsTuple (Shared.heap ⟨hp,g,d,tk,os⟩) l1 xs1 := hl1
  have hL2 : Heap.IsList (Shared.heap ⟨(hp).push { cls := .type "tuple_iterator",data := .fields #[.ref l1,.int 0 0] },g,d,tk,os⟩) l2 xs2 := Heap.IsList.push (hl2) _
  wp_walk using wpAny_pyIter_tuple hL1,wpAny_pyIter_list hL2
  exact ⟨_,rfl,h⟩⟩
set_option maxHeartbeats 8000000 in
theorem MW (P : Program) (w : World) (K : PySem.W.Frag) : Fs (Cg P w K) (Cg P w K) := ⟨trivial,trivial,fun l1 l2 xs1 xs2 =>
 .of_wp fun prog w A R s h => by
  obtain ⟨hp,g,d,tk,os⟩ := s; obtain ⟨hl1,hl2,h⟩ := h; have hsub := sub_zip
  have hL1 : Heap.IsTuple (Shared.heap ⟨hp,g,d,tk,os⟩) l1 xs1 := hl1
  have hL2 : Heap.IsTuple (Shared.heap ⟨(hp).push { cls := .type "tuple_iterator",data := .fields #[.ref l1,.int 0 0] },g,d,tk,os⟩) l2 xs2 := Heap.IsTuple.push (hl2) _
  wp_walk using wpAny_pyIter_tuple hL1,wpAny_pyIter_tuple hL2
  exact ⟨_,rfl,h⟩⟩
theorem MX {n l1 l2 : Nat} (h1 : l1 < n) (h2 : l2 < n) : Fm (n + 4) (n + 2) (n + 3) n (n + 1) l1 l2 := by constructor <;> intro z <;> (have z' := z; revert z'; intro z'; try (change (_ : Nat) = _ at z'); omega)
def DB {P : Program} {w : World} {K : PySem.W.Frag} (S1 S2 : Be P w K) (a b : Addr) : It :=
 ⟨fun i H => ∃ xs ys x y,S1.Sq H a xs /\ S2.Sq H b ys /\ xs[i]? = some x /\ ys[i]? = some y,fun i H v H' => ∃ T,v = .ref T /\ H T = none /\ ∀ xs ys x y,S1.Sq H a xs -> S2.Sq H b ys -> xs[i]? = some x -> ys[i]? = some y -> H' = upd H T (.tup [x,y]),
  fun i H => ∃ xs ys,S1.Sq H a xs /\ S2.Sq H b ys /\ xs.length = i⟩
theorem MY {P : Program} {w : World} {K : PySem.W.Frag} (S1 S2 : Be P w K) {es : List Expr} {k : Nat} {pos : Pos} (z TI TO i1 i2 l1 l2 : Addr) (D : Fm z TI TO i1 i2 l1 l2) :
  CJ P w K (.Tuple es k pos) (DB S1 S2 l1 l2) [z,TI,TO,i1,i2] z (fun i h => IsZip h z TI TO .none /\ Bx h TI (.ref i1) (.ref i2) /\ (∃ a b,Bx h TO a b) /\ S1.It h i1 l1 i /\ S2.It h i2 l2 i) where
 mem := by simp
 obj := fun i h st b hb => by
  obtain ⟨hz,hTI,⟨a,b',hTO⟩,h1,h2⟩ := st
  simp only [List.mem_cons,List.not_mem_nil,or_false] at hb
  rcases hb with e | e | e | e | e <;> rw [e]
  ·exact ⟨_,hz,fun v q => by have q' : Data.fields _ = Data.cell v := q; cases q'⟩
  ·exact ⟨_,hTI,fun v q => by have q' : Data.seq _ _ = Data.cell v := q; cases q'⟩
  ·exact ⟨_,hTO,fun v q => by have q' : Data.seq _ _ = Data.cell v := q; cases q'⟩
  ·exact S1.ito h1
  ·exact S2.ito h2
 keep := fun i h h' st kk => by
  obtain ⟨hz,hTI,⟨a,b',hTO⟩,h1,h2⟩ := st
  exact ⟨kk z (by simp) _ hz,kk TI (by simp) _ hTI,⟨a,b',kk TO (by simp) _ hTO⟩,S1.itk h1 fun o q => kk i1 (by simp) o q,S2.itk h2 fun o q => kk i2 (by simp) o q⟩
 item := by
  intro X hP hw hK hc i pins s σ H E I hf st hg
  subst hP hw
  obtain ⟨xs,ys,x,y,hq1,hq2,hx,hy⟩ := hg
  obtain ⟨its1,rv1,is1,hz1⟩ := S1.get hK I hq1
  obtain ⟨its2,rv2,is2,hz2⟩ := S2.get hK I hq2
  obtain ⟨u1,hu1,ru1⟩ := rv1.get hx
  obtain ⟨u2,hu2,ru2⟩ := rv2.get hy
  obtain ⟨hz,hTI,⟨a,b',hTO⟩,h1,h2⟩ := st
  have hh := I.ok.hd hc
  have hT : s.TypeIs (.ref z) "zip" := ⟨_,hz,rfl⟩
  unfold pyNext
  refine wpAny_bind (wpAny_attempt (wpAny_callSpecial?_slot (name := Str.ofString "__next__") hT F.slot_zip_next (wpAny_call_entry F.slot_zip_next hT F.entry_zip_next
   (MS S1 S2 (x1 := u1) (x2 := u2) hh D ⟨_,_,hz,.inl rfl,.inl rfl⟩ hTI hTO ⟨h1,is1⟩ ⟨h2,is2⟩ (by simpa using hu1) (by simpa using hu2) fun h' tk _ az a2 a3 a4 a5 a6 hk => wpAny_pure ⟨_,rfl,?_⟩) (F.args_zip_next_1 _))))
  obtain ⟨b1,b2,a2⟩ := a2
  refine wpAny_letOwnedTupleGo_zip (az (.inr hz)) fun h'' z1 sb => ?_
  have kk : ∀ b o,b ∉ [z,TI,TO,i1,i2] -> s.heap.get? b = some o -> h''.get? b = some o := fun b o hb q => sb.extBut b o (fun e => hb (by simp [e])) (hk b o (fun e => hb (by simp [e])) (fun e => hb (by simp [e])) (fun e => hb (by simp [e])) (fun e => hb (by simp [e])) q)
  have zl : z < s.heap.objs.size := Heap.lt_size hz
  have ht : IsTup h'' s.heap.objs.size [u1,u2].toArray := ⟨_,sb.extBut _ _ (Nat.ne_of_gt zl) a5,rfl,_,rfl⟩
  exact ⟨.ref s.heap.objs.size,upd H s.heap.objs.size (.tup [x,y]),I.yielded (tk := tk) (fun b hb => hf b hb) kk (Nat.le_refl _) ht (.cons ru1 (.cons ru2 .nil)) (by show 2 <= sizeLine; decide),rfl,
   ⟨_, rfl, I.hok.fresh (Nat.le_refl _), fun xs' ys' x' y' e1 e2 e3 e4 => by
    rw [S1.inj hK I e1 hq1,hx] at e3; rw [S2.inj hK I e2 hq2,hy] at e4; cases e3; cases e4; rfl⟩,
   ⟨z1, sb.extBut _ _ D.TI_z (hk _ _ D.TI_z D.TO_TI.symm D.i1_TI.symm D.i2_TI.symm hTI), ⟨_, _, sb.extBut _ _ D.TO_z a2⟩, S1.itk a3.1 fun o q => sb.extBut _ o D.i1_z q, S2.itk a4.1 fun o q => sb.extBut _ o D.i2_z q⟩, fun b hb => by
    have hbt : b < s.heap.objs.size := by
     simp only [List.mem_cons,List.not_mem_nil,or_false] at hb
     rcases hb with e | e | e | e | e <;> rw [e]
     ·exact zl
     ·exact Heap.lt_size hTI
     ·exact Heap.lt_size hTO
     ·obtain ⟨o,q,_⟩ := S1.ito h1; exact Heap.lt_size q
     ·obtain ⟨o,q,_⟩ := S2.ito h2; exact Heap.lt_size q
    rw [Ap (Nat.ne_of_lt hbt)]; exact (hf b hb).1⟩
 done := by
  intro X hP hw hK hc i pins s σ H E I hf st hg
  subst hP hw
  obtain ⟨xs,ys,hq1,hq2,hend⟩ := hg
  obtain ⟨its1,rv1,is1,hz1⟩ := S1.get hK I hq1
  obtain ⟨its2,rv2,is2,hz2⟩ := S2.get hK I hq2
  obtain ⟨hz,hTI,⟨a,b',hTO⟩,h1,h2⟩ := st
  have hh := I.ok.hd hc
  have hT : s.TypeIs (.ref z) "zip" := ⟨_,hz,rfl⟩
  have e1 := rv1.length
  have e2 := rv2.length
  unfold pyNext
  refine wpAny_bind (wpAny_attempt (wpAny_callSpecial?_slot (name := Str.ofString "__next__") hT F.slot_zip_next (wpAny_call_entry F.slot_zip_next hT F.entry_zip_next
   (MT S1 S2 hh D ⟨_,_,hz,.inl rfl,.inl rfl⟩ hTI hTO ⟨h1,is1⟩ ⟨h2,is2⟩ (by simp; omega) fun h' tk e hk he => ?_) (F.args_zip_next_1 _))))
  obtain ⟨o,ho,hco⟩ := he
  refine wpAny_bind (wpAny_isInstance (T := "StopIteration") (b := true) ⟨o,ho,hco⟩ isSubtype_stop ?_)
  exact wpAny_pure ⟨rfl,I.ended (wr := [z,TI,TO,i1,i2]) (tk := tk) (fun b hb => hf b hb) fun b o hb q => hk b o (fun e => hb (by simp [e])) (fun e => hb (by simp [e])) (fun e => hb (by simp [e])) (fun e => hb (by simp [e])) q⟩
 self := fun _ _ _ _ _ st h => wpAny_pyIter_zip st.1 h
def EE {P : Program} {w : World} {K : PySem.W.Frag} (S1 S2 : Be P w K) (ta : TA) : TI := fun σ H R => ta σ H fun vs H1 => ∃ a b,vs = [.ref a,.ref b] /\ (∃ xs,S1.Sq H1 a xs) /\ (∃ ys,S2.Sq H1 b ys) /\ R (DB S1 S2 a b) H1
theorem JB {es : List Expr} (S1 S2 : Be X.prog X.w X.K) (zn : Fs S1 S2) (hg : Gl X "zip") (hm : X.mg "zip" = none) (ha : PA X [e1,e2] ta)
  (hs : starEach [e1,e2] X.env = [(false,eval e1 X.env),(false,eval e2 X.env)]) (hs2 : starEach [e2] X.env = [(false,eval e2 X.env)]) : PI X (.Tuple es k pos') (.Call (.Name "zip" p) [e1,e2] [] pos) (EE S1 S2 ta) := by
 intro pins s σ H R I h
 refine Ar (MU S1 S2 zn (R := fun l1 l2 H1 => R (DB S1 S2 l1 l2) H1) hg hm ha hs hs2 I h) fun v s1 ⟨l1,l2,H1,m,e,q,I1,gz,gI,gO,g1,g2,h1,h2,fr,_⟩ => ?_
 subst e
 exact wpAny_pyIter_zip gz ⟨_,[m + 4,m + 2,m + 3,m,m + 1],_,_,H1,rfl,I1,MY S1 S2 _ _ _ _ _ l1 l2 (MX h1 h2),⟨gz,gI,⟨_,_,gO⟩,g1,g2⟩,fun b hb => fr b (by
  simp only [List.mem_cons,List.not_mem_nil,or_false] at hb
  rcases hb with e | e | e | e | e <;> rw [e] <;> first | exact Nat.le_refl _ | exact Nat.le_add_right _ _),q⟩
theorem MZ {es : List Expr} (hg : Gl X "zip") (hm : X.mg "zip" = none) (ha : PA X [e1,e2] ta)
  (hs : starEach [e1,e2] X.env = [(false,eval e1 X.env),(false,eval e2 X.env)] := by rfl) (hs2 : starEach [e2] X.env = [(false,eval e2 X.env)] := by rfl) : PI X (.Tuple es k pos') (.Call (.Name "zip" p) [e1,e2] [] pos) (EE (Cg X.prog X.w X.K) (Hu X.prog X.w X.K) ta) := JB _ _ (MV _ _ _) hg hm ha hs hs2
theorem M0 {es : List Expr} (hg : Gl X "zip") (hm : X.mg "zip" = none) (ha : PA X [e1,e2] ta)
  (hs : starEach [e1,e2] X.env = [(false,eval e1 X.env),(false,eval e2 X.env)] := by rfl) (hs2 : starEach [e2] X.env = [(false,eval e2 X.env)] := by rfl) : PI X (.Tuple es k pos') (.Call (.Name "zip" p) [e1,e2] [] pos) (EE (Cg X.prog X.w X.K) (Cg X.prog X.w X.K) ta) := JB _ _ (MW _ _ _) hg hm ha hs hs2
end L2
end
section
namespace L2
open PySem PySem.Spec PyProof.Rows
variable {C : Int -> Int -> Prop} {g : Int -> Int -> V} {y : V} {H : Hp} {Q : VK} {op op' : CmpOp} {r' : R2}
section
variable {X : Cx} {e a b c : Expr} {es rest : List Expr} {ta tb tc te : TE} {pos p : Pos} {tA tB' : TT} {t u : TS}
theorem PE.weak {t t' : TE} (h : PE X e t) (w : ∀ σ H Q,t' σ H Q -> t σ H Q) : PE X e t' := fun pins s σ H Q I q => h pins s σ H Q I (w σ H Q q)
def DX (i : Nat) : TE := fun σ H Q => match σ[i]? with | some (some v) => Q v H | _ => False
theorem cv (i : Nat) {x : Str} {pos : Pos} (hN : X.N[i]? = some x := by rfl) (hv : Eu X.env.scope x := by first | exact Or.inl rfl | exact Or.inr (Or.inl rfl) | exact Or.inr (Or.inr rfl)) (hd : (x == ("__debug__" : Str)) = false := by decide)
  (hcd : (x == ("__classdict__" : Str)) = false := by decide) : PE X (.Name x pos) (DX i) := (GK hN hv hd hcd).weak fun σ H Q q => by
 unfold DX at q
 split at q
 ·exact ⟨_,by assumption,q⟩
 ·exact q.elim
end
section
variable {X : Cx} {e a b c : Expr} {es rest : List Expr} {ta tb tc te : TE} {pos p : Pos}
theorem M1 {x : V} (h : match x,y with | .int i,.int j => C i j /\ Q (g i j) H | _,_ => False) : rI C g x y H Q := by
 split at h
 ·exact ⟨_,_,rfl,rfl,h⟩
 ·exact h.elim
theorem M2 {x : V} (h : match x,y with | .int i,.int j => Q (g i j) H | _,_ => False) : CL g x y H Q := by
 split at h
 ·exact ⟨_,_,rfl,rfl,h⟩
 ·exact h.elim
def mI (C : Int -> Int -> Prop) (g : Int -> Int -> V) : R2 := fun x y H Q => match x,y with | .int i,.int j => C i j /\ Q (g i j) H | _,_ => False
def mI0 (g : Int -> Int -> V) : R2 := fun x y H Q => match x,y with | .int i,.int j => Q (g i j) H | _,_ => False
theorem OpR.mI {f : Value -> Value -> Sem Value} (h : OpR X f (rI C g)) : OpR X f (L2.mI C g) := fun pins s σ H x y v u Q I rx ry q => h pins s σ H x y v u Q I rx ry (M1 q)
theorem OpR.mI0 {f : Value -> Value -> Sem Value} (h : OpR X f (CL g)) : OpR X f (L2.mI0 g) := fun pins s σ H x y v u Q I rx ry q => h pins s σ H x y v u Q I rx ry (M2 q)
theorem A2 : OpR X (binaryOp .Add) (mI0 fun i j => .int (i + j)) := op_add.mI0
theorem Bk : OpR X (binaryOp .Sub) (mI0 fun i j => .int (i - j)) := op_sub.mI0
theorem Db : OpR X (binaryOp .Mult) (mI CMul fun i j => .int (i * j)) := op_mul.mI
theorem Ft : OpR X (binaryOp .FloorDiv) (mI GP fun i j => .int (i / j)) := op_fdiv.mI
theorem DY : OpR X (binaryOp .Mod) (mI (fun _ j => 0 < j) fun i j => .int (i % j)) := op_mod.mI
theorem M3 : OpR X (binaryOp .Pow) (mI IL fun i j => .int (i ^ j.toNat)) := op_pow.mI
theorem EF : OpR X (compareOp .Lt) (mI0 fun i j => .bl (decide (i < j))) := op_lt.mI0
theorem Dc : OpR X (compareOp .LtE) (mI0 fun i j => .bl (decide (i <= j))) := op_le.mI0
theorem M4 : OpR X (compareOp .Gt) (mI0 fun i j => .bl (decide (j < i))) := op_gt.mI0
theorem M5 : OpR X (compareOp .GtE) (mI0 fun i j => .bl (decide (j <= i))) := op_ge.mI0
def mB (x : V) (Q : Bool -> Prop) : Prop := match x with | .bl c => Q c | _ => False
end
structure Mono (t : TE) : Prop where
 m : ∀ {σ H} {Q Q' : VK},t σ H Q -> (∀ v H',Q v H' -> Q' v H') -> t σ H Q'
section
variable {X : Cx} {e a b c : Expr} {es rest : List Expr} {te : TE} {pos p : Pos}
def cB (t : TE) : TT := fun σ H Q => t σ H fun x H1 => match x with | .bl c => Q c H1 | _ => False
theorem BV {t : TE} (h : PE X e t) (he : ∀ whole,isTrue e X.env whole = (do let v <- whole; standAt e.pos; holding [v] (truthy v)) := by intro _; rfl) : PT X e (cB t) := by
 intro pins s σ H Q I hw
 refine isTrue_plain (Ar (h pins s σ H _ I hw) fun v s1 ⟨x,H1,I1,r1,q1⟩ => ?_) (he _)
 dsimp only at q1
 split at q1
 ·cases r1; exact wpAny_truthy_bool ⟨H1,I1,q1⟩
 ·exact q1.elim
theorem A7 {op : CmpOp} {r : R2} {ta tb : TE} (ho : OpR X (compareOp op) r) (ha : PE X a ta) (hb : PE X b tb) (hm : behindInMarks op b = false) : PT X (.Compare a [op] [b] pos) (cB (Ez r ta tb)) := by
 intro pins s σ H Q I h
 refine wpAny_isTrue_Compare1 (Ar (ha pins s σ H _ I h) fun v s1 ⟨x,H1,I1,r1,q1⟩ => Ar (hb pins s1 σ H1 _ I1 q1) fun u s2 ⟨y,H2,I2,r2,q2⟩ =>
  Ar (ho pins s2 σ H2 x y v u _ I2 r1 r2 q2) fun c s3 ⟨z,H3,I3,r3,q3⟩ => ?_) hm
 dsimp only at q3
 split at q3
 ·cases r3; exact wpAny_truthy_bool ⟨H3,I3,q3⟩
 ·exact q3.elim
def JC (r r' : R2) (ta tb tc : TE) : TE := fun σ H Q => ta σ H fun x H1 => tb σ H1 fun y H2 => r x y H2 fun z H3 => match z with | .bl k => br k (tc σ H3 fun w' H4 => r' y w' H4 Q) (Q (.bl false) H3) | _ => False
theorem JD {r : R2} {ta tb tc : TE} (ho : OpR X (compareOp op) r) (ho' : OpR X (compareOp op') r') (ha : PE X a ta) (hb : PE X b tb) (hc : PE X c tc)
  (hm : lastMarks [op,op'] [b,c] = false := by with_unfolding_all rfl) : PE X (.Compare a [op,op'] [b,c] pos) (JC r r' ta tb tc) := by
 intro pins s σ H Q I h
 refine Compare_chain (Ar (ha pins s σ H _ I h) fun v s1 ⟨x,H1,I1,r1,q1⟩ => chain_link (Ar (hb pins s1 σ H1 _ I1 q1) fun u s2 ⟨y,H2,I2,r2,q2⟩ =>
  Ar (ho pins s2 σ H2 x y v u _ I2 r1 r2 q2) fun d s3 ⟨z,H3,I3,r3,q3⟩ => ?_)) hm
 dsimp only at q3
 split at q3
 ·rename_i k
  cases r3
  refine wpAny_truthy_bool ?_
  cases k with
  | false => exact ite_ff ⟨.bl false,H3,I3,rfl,q3.2 rfl⟩
  | true => exact ite_tt (chain_last (Ar (hc pins s3 σ H3 _ I3 (q3.1 rfl)) fun w' s4 ⟨z',H4,I4,r4,q4⟩ => ho' pins s4 σ H4 y z' u w' Q I4 r2 r4 q4))
 ·exact q3.elim
theorem M6 {r : R2} {ta tb tc : TE} (ho : OpR X (compareOp op) r) (ho' : OpR X (compareOp op') r') (ha : PE X a ta) (hb : PE X b tb) (hc : PE X c tc)
  (hm : lastMarks [op,op'] [b,c] = false := by with_unfolding_all rfl) : PT X (.Compare a [op,op'] [b,c] pos) (cB (JC r r' ta tb tc)) := by
 intro pins s σ H Q I h
 refine isTrue_chain (Ar (ha pins s σ H _ I h) fun v s1 ⟨x,H1,I1,r1,q1⟩ => test_link (Ar (hb pins s1 σ H1 _ I1 q1) fun u s2 ⟨y,H2,I2,r2,q2⟩ =>
  Ar (ho pins s2 σ H2 x y v u _ I2 r1 r2 q2) fun d s3 ⟨z,H3,I3,r3,q3⟩ => ?_)) hm
 dsimp only at q3
 split at q3
 ·rename_i k
  cases r3
  refine wpAny_truthy_bool ?_
  cases k with
  | false => exact ite_ff ⟨H3,I3,q3.2 rfl⟩
  | true =>
   refine ite_tt (test_last (Ar (hc pins s3 σ H3 _ I3 (q3.1 rfl)) fun w' s4 ⟨z',H4,I4,r4,q4⟩ => Ar (ho' pins s4 σ H4 y z' u w' _ I4 r2 r4 q4) fun d' s5 ⟨z2,H5,I5,r5,q5⟩ => ?_))
   dsimp only at q5
   split at q5
   ·cases r5; exact wpAny_truthy_bool ⟨H5,I5,q5⟩
   ·exact q5.elim
 ·exact q3.elim
def M7 (t u : TT) : TT := fun σ H Q => t σ H fun c H1 => br c (u σ H1 Q) (Q false H1)
def M8 (t u : TT) : TT := fun σ H Q => t σ H fun c H1 => br c (Q true H1) (u σ H1 Q)
theorem Hv {tA tB' : TT} (ha : PT X a tA) (hb : PW X (.BoolOp .And (b :: rest) pos) tB') : PW X (.BoolOp .And (a :: b :: rest) pos) (M7 tA tB') := by
 intro wh pins s σ H Q I h
 refine isTrue_and (Ar (ha pins s σ H _ I h) fun c s1 ⟨H1,I1,q1⟩ => ?_)
 cases c with
 | true => exact hb wh pins s1 σ H1 Q I1 (q1.1 rfl)
 | false => exact ⟨H1,I1,q1.2 rfl⟩
theorem JE {tA tB' : TT} (ha : PT X a tA) (hb : PW X (.BoolOp .Or (b :: rest) pos) tB') : PW X (.BoolOp .Or (a :: b :: rest) pos) (M8 tA tB') := by
 intro wh pins s σ H Q I h
 refine isTrue_or (Ar (ha pins s σ H _ I h) fun c s1 ⟨H1,I1,q1⟩ => ?_)
 cases c with
 | true => exact ⟨H1,I1,q1.1 rfl⟩
 | false => exact hb wh pins s1 σ H1 Q I1 (q1.2 rfl)
def M9 (ta tb : TE) : TE := fun σ H Q => ta σ H fun x H1 => match x with | .bl c => br c (tb σ H1 Q) (Q (.bl false) H1) | _ => False
def Na (ta : TE) : TE := fun σ H Q => ta σ H fun x H1 => match x with | .bl c => Q (.bl (!c)) H1 | _ => False
theorem By {ta tb : TE} (ha : PE X a ta) (hb : PE X (.BoolOp .And (b :: rest) pos) tb) : PE X (.BoolOp .And (a :: b :: rest) pos) (M9 ta tb) := by
 intro pins s σ H Q I h
 refine BoolOp_and (Ar (ha pins s σ H _ I h) fun v s1 ⟨x,H1,I1,r1,q1⟩ => ?_)
 dsimp only at q1
 split at q1
 ·rename_i c
  cases r1
  refine wpAny_truthy_bool ?_
  cases c with
  | true => exact hb pins s1 σ H1 Q I1 (q1.1 rfl)
  | false => exact ⟨.bl false,H1,I1,rfl,q1.2 rfl⟩
 ·exact q1.elim
theorem Nb {ta : TE} (ha : PE X a ta) : PE X (.UnaryOp .Not a pos) (Na ta) := by
 intro pins s σ H Q I h
 refine UnaryOp_ (Ar (ha pins s σ H _ I h) fun v s1 ⟨x,H1,I1,r1,q1⟩ => ?_)
 dsimp only at q1
 split at q1
 ·rename_i c
  cases r1
  exact not_of (wpAny_truthy_bool ⟨.bl (!c),H1,I1,rfl,q1⟩)
 ·exact q1.elim
def Nc (t : TT) (ta tb : TE) : TE := fun σ H Q => t σ H fun c H1 => br c (ta σ H1 Q) (tb σ H1 Q)
theorem DC {ta tb : TE} {tA : TT} (hc : PT X c tA) (ha : PE X a ta) (hb : PE X b tb) : PE X (.IfExp c a b pos) (Nc tA ta tb) := by
 intro pins s σ H Q I h
 refine wpAny_IfExp (Ar (hc pins s σ H _ I h) fun d s1 ⟨H1,I1,q1⟩ => ?_)
 cases d with
 | true => exact ha pins s1 σ H1 Q I1 (q1.1 rfl)
 | false => exact hb pins s1 σ H1 Q I1 (q1.2 rfl)
def Nd (c : TT) (t u : TS) : TS := fun D σ H => c σ H fun b H1 => br b (t D σ H1) (u D σ H1)
theorem A8 {sa sb : List Stmt} {tc : TT} {t u : TS} (hc : PT X c tc) (ha : PSs X sa t) (hb : PSs X sb u) : PS X (.If c sa sb pos) (Nd tc t u) := by
 intro pins s σ H D I h
 refine wpAny_If (Ar (hc pins s σ H _ I h) fun d s1 ⟨H1,I1,q1⟩ => ?_)
 cases d with
 | true => exact ha pins s1 σ H1 D I1 (q1.1 rfl)
 | false => exact hb pins s1 σ H1 D I1 (q1.2 rfl)
end
section
variable {X : Cx} {es : List Expr} {t : TA} {pos : Pos}
theorem Bl {n : Nat} (h : Nat.ble n 64 = true) : n <= sizeLine := Nat.le_trans (Nat.le_of_ble_eq_true h) (by decide)
def JF (t : TA) : TE := fun σ H Q => t σ H fun xs H1 => match Nat.ble xs.length 64 with | true => ∀ p,H1 p = none -> Q (.ref p) (upd H1 p (.tup xs)) | false => False
def Nf (t : TA) : TE := fun σ H Q => t σ H fun xs H1 => match Nat.ble xs.length 64 with | true => ∀ p,H1 p = none -> Q (.ref p) (upd H1 p (.lst xs)) | false => False
theorem A9 {x1} (h : PA X es t) : PE X (.Tuple es x1 pos) (JF t) := by
 intro pins s σ H Q I hq
 refine wpAny_Tuple_spliced (Ar (h pos pins s σ H _ I hq) fun us s1 ⟨xs,H1,I1,r,q⟩ => ?_)
 dsimp only at q
 split at q
 ·rename_i z
  refine ⟨by rw [<- r.length]; exact Bl z,?_⟩
  have hf : H1 s1.heap.objs.size = none := I1.hok.fresh (Nat.le_refl _)
  refine ⟨.ref s1.heap.objs.size,upd H1 s1.heap.objs.size (.tup xs),I1.laid (t' := s1.toks) (fun b u e => Heap.get?_push_of_some _ e) (Nat.le_refl _) ?_,rfl,q _ hf⟩
  exact ⟨Bl z,us,r,⟨_,Heap.get?_push_size _ rfl,rfl,_,rfl⟩⟩
 ·exact q.elim
theorem Bi (h : PA X es t) : PE X (.List es pos) (Nf t) := by
 intro pins s σ H Q I hq
 refine wpAny_List_spliced (Ar (h pos pins s σ H _ I hq) fun us s1 ⟨xs,H1,I1,r,q⟩ => ?_)
 dsimp only at q
 split at q
 ·rename_i z
  refine ⟨by rw [<- r.length]; exact Bl z,?_⟩
  have hf : H1 s1.heap.objs.size = none := I1.hok.fresh (Nat.le_refl _)
  refine ⟨.ref s1.heap.objs.size,upd H1 s1.heap.objs.size (.lst xs),I1.laid (t' := s1.toks) (fun b u e => Heap.get?_push_of_some _ e) (Nat.le_refl _) ?_,rfl,q _ hf⟩
  exact ⟨Bl z,us,0,r,Heap.get?_push_size _ rfl⟩
 ·exact q.elim
end
section
variable {P : Program} {w : World} {K : PySem.W.Frag} {mg : Str -> Option Value} {base : Heap}
structure Fn (P : Program) (w : World) (K : PySem.W.Frag) (mg : Str -> Option Value) (base : Heap) (n : Nat) (x : Str) (ps : List Str) (sp : Sp) : Prop where
 ex : ∃ (f : Addr) (fd : FuncData),Cw P w K mg base CX0 n f fd ps sp /\ mg x = some (.ref f) /\ PySem.W.keepIn K (.ref f) = true /\ Binds K fd ps []
structure Df (K : PySem.W.Frag) (mg : Str -> Option Value) (x : Str) (st : Stmt) (ps : List Str) : Prop where
 ex : ∃ (f : Addr) (fd : FuncData),Dx K x x st f fd /\ mg x = some (.ref f) /\ Binds K fd ps []
theorem Df.fn {x : Str} {st : Stmt} {N ps : List Str} {k : Nat} {sp : Sp} (F : Df K mg x st ps) (S : Ax N ps (Aq st)) (len : ∀ vs H Q E,sp vs H Q E -> vs.length = ps.length)
  (hbody : ∀ (f : Addr) (cdv : Value) (A : Around) (outer : List Env) (s : Shared) (H : Hp) (vs : List V) (Q : VK) (E : XK), AX k (A.deeper (envOfC x (Aq st) s.heap.objs.size f cdv)) -> sp vs H Q E ->
   ∃ t,PSs (BK CX0 P w K mg base N x (Aq st) f cdv A outer s H E).nox (Bv st) t /\ t { nx := fun _ H' => Q .non H',rt := Q } (start N vs) H) : Fn P w K mg base (k + 1) x ps sp := by
 obtain ⟨f,fd,hF,hm,hb⟩ := F.ex
 exact ⟨f,fd,hF.ok S len fun cdv A outer s H vs Q E hr h => hbody f cdv A outer s H vs Q E hr h,hm,hF.kp,hb⟩
def JG (sp : Sp) (t : TA) : TE := fun σ H Q => t σ H fun vs H1 => sp vs H1 Q E0
theorem An {X : Cx} {n : Nat} {x : Str} {ps : List Str} {sp : Sp} {e : Expr} {es : List Expr} {t : TA} {p pos : Pos} (F : Fn X.prog X.w X.K X.mg X.base n x ps sp) (hr : AX n X.A) (hg : Gl X x) (ha : PA X (e :: es) t)
  (hdb : (x == ("__debug__" : Str)) = false := by decide) (he : starEach (e :: es) X.env = (false,eval e X.env) :: starEach es X.env := by rfl) (hpl : (backTo pos (starEach es X.env)).any (·.1) = false := by rfl) :
  PE X (.Call (.Name x p) (e :: es) [] pos) (JG sp t) := by
 obtain ⟨f,fd,F,hm,hk,hb⟩ := F.ex
 refine (IT (dvs := []) (E := E0) F hr hg hm hk hb .nil MA ha hdb he hpl).weak fun σ H Q q => ?_
 have e : ∀ vs : List V,vs ++ [] = vs := fun vs => List.append_nil vs
 show t σ H fun vs H1 => sp (vs ++ []) H1 Q E0
 simp only [e]
 exact q
end
end L2
end
section
namespace L2
open PySem PySem.Spec PyProof.Rows
variable {p a : Addr} {H H' : Hp} {xs : List V}
def DK (kvs : List (PyData × PyData)) (ks : List (AO × V)) : Prop := (kvs = [] /\ ks = []) \/ (kvs = [(.int 0,.int 1)] /\ ks = [(.inl 0,.int 1)])
mutual
def Aa (p : Addr) (H : Hp) : PyData -> V -> Prop
 | .none,v => v = .non
 | .bool b,v => v = .bl b
 | .int i,v => v = .int i
 | .str x,v => v = .str x
 | .tuple ds,v => ∃ a xs,v = .ref a /\ H a = some (.tup xs) /\ Ad p H ds xs
 | .list ds,v => ∃ a xs,v = .ref a /\ a ≠ p /\ H a = some (.lst xs) /\ Ad p H ds xs
 | .dict kvs,v => ∃ a ks,v = .ref a /\ a ≠ p /\ DK kvs ks /\ H a = some (.dK ks)
def Ad (p : Addr) (H : Hp) : List PyData -> List V -> Prop
 | [],xs => xs = []
 | d :: ds,xs => ∃ x r,xs = x :: r /\ Aa p H d x /\ Ad p H ds r
end
def Ev (p : Addr) (H H' : Hp) : Prop := ∀ b o,H b = some o -> (b = p /\ ∃ xs,o = .lst xs) \/ H' b = some o
theorem Ev.refl : Ev p H H := fun _ _ h => .inr h
theorem Ev.same (h : Ab H H') : Ev p H H' := fun b o q => .inr (h b o q)
theorem Ev.trans {H1 H2 : Hp} (h : Ev p H H1) (h' : Ev p H1 H2) : Ev p H H2 := fun b o q => (h b o q).elim .inl fun r => h' b o r
theorem Ev.tup (h : Ev p H H') (q : H a = some (.tup xs)) : H' a = some (.tup xs) := (h a _ q).elim (fun ⟨_,ys,e⟩ => nomatch e) id
theorem Ev.lst (h : Ev p H H') (q : H a = some (.lst xs)) (n : a ≠ p) : H' a = some (.lst xs) := (h a _ q).elim (fun ⟨e,_⟩ => absurd e n) id
theorem Ev.dk {ks : List (AO × V)} (h : Ev p H H') (q : H a = some (.dK ks)) : H' a = some (.dK ks) := (h a _ q).elim (fun ⟨_,ys,e⟩ => nomatch e) id
theorem Ev.new {o : HO} (h : H a = none) : Ev p H (upd H a o) := fun b u q => .inr (by rw [Ap (Bd q h)]; exact q)
theorem Ev.pen {o : HO} (h : H p = some (.lst xs)) : Ev p H (upd H p o) := fun b u q => by
 by_cases e : b = p
 ·subst e; rw [h] at q; cases q; exact .inl ⟨rfl,xs,rfl⟩
 ·exact .inr (by rw [Ap e]; exact q)
theorem Ab.new {o : HO} (h : H a = none) : Ab H (upd H a o) := fun b u q => by rw [Ap (Bd q h)]; exact q
mutual
theorem Aa.ev (h : Ev p H H') : ∀ (d : PyData) (v : V),Aa p H d v -> Aa p H' d v
 | .none,v,q => q
 | .bool _,v,q => q
 | .int _,v,q => q
 | .str _,v,q => q
 | .tuple ds,v,q => by
  unfold Aa at q ⊢
  obtain ⟨a,xs,e,r,z⟩ := q
  exact ⟨a,xs,e,h.tup r,Ad.ev h ds xs z⟩
 | .list ds,v,q => by
  unfold Aa at q ⊢
  obtain ⟨a,xs,e,n,r,z⟩ := q
  exact ⟨a,xs,e,n,h.lst r n,Ad.ev h ds xs z⟩
 | .dict kvs,v,q => by
  unfold Aa at q ⊢
  obtain ⟨a,ks,e,n,k,r⟩ := q
  exact ⟨a,ks,e,n,k,h.dk r⟩
theorem Ad.ev (h : Ev p H H') : ∀ (ds : List PyData) (xs : List V),Ad p H ds xs -> Ad p H' ds xs
 | [],xs,q => by unfold Ad at q ⊢; exact q
 | d :: ds,xs,q => by
  unfold Ad at q ⊢
  obtain ⟨x,r,e,z,zs⟩ := q
  exact ⟨x,r,e,Aa.ev h d x z,Ad.ev h ds r zs⟩
end
theorem Ad.len : ∀ {ds : List PyData} {xs : List V},Ad p H ds xs -> ds.length = xs.length
 | [],xs,q => by unfold Ad at q; subst q; rfl
 | d :: ds,xs,q => by
  unfold Ad at q
  obtain ⟨x,r,e,z,zs⟩ := q
  subst e
  simp [Ad.len zs]
theorem Ad.get {p : Addr} {H : Hp} : ∀ {ds : List PyData} {xs : List V} {i : Nat} {d : PyData},Ad p H ds xs -> ds[i]? = some d -> ∃ x,xs[i]? = some x /\ Aa p H d x
 | [],xs,i,d,q,e => by simp at e
 | d :: ds,xs,0,d',q,e => by
  unfold Ad at q
  obtain ⟨x,r,rfl,z,zs⟩ := q
  simp at e; subst e
  exact ⟨x,rfl,z⟩
 | d :: ds,xs,i + 1,d',q,e => by
  unfold Ad at q
  obtain ⟨x,r,rfl,z,zs⟩ := q
  obtain ⟨y,hy,ry⟩ := Ad.get (i := i) zs (by simpa using e)
  exact ⟨y,by simpa using hy,ry⟩
theorem Ad.got {p : Addr} {H : Hp} : ∀ {ds : List PyData} {xs : List V} {i : Nat} {x : V},Ad p H ds xs -> xs[i]? = some x -> ∃ d,ds[i]? = some d /\ Aa p H d x
 | [],xs,i,x,q,e => by unfold Ad at q; subst q; simp at e
 | d :: ds,xs,0,x',q,e => by
  unfold Ad at q
  obtain ⟨x,r,rfl,z,zs⟩ := q
  simp at e; subst e
  exact ⟨d,rfl,z⟩
 | d :: ds,xs,i + 1,x',q,e => by
  unfold Ad at q
  obtain ⟨x,r,rfl,z,zs⟩ := q
  obtain ⟨y,hy,ry⟩ := Ad.got (i := i) zs (by simpa using e)
  exact ⟨y,by simpa using hy,ry⟩
theorem Ad.nil : Ad p H [] [] := by unfold Ad; rfl
theorem Ad.cons {d : PyData} {ds : List PyData} {x : V} (h : Aa p H d x) (r : Ad p H ds xs) : Ad p H (d :: ds) (x :: xs) := by unfold Ad; exact ⟨x,xs,rfl,h,r⟩
theorem Ad.append : ∀ {ds es : List PyData} {xs ys : List V},Ad p H ds xs -> Ad p H es ys -> Ad p H (ds ++ es) (xs ++ ys)
 | [],_,xs,_,q,r => by unfold Ad at q; subst q; exact r
 | d :: ds,_,xs,_,q,r => by
  unfold Ad at q
  obtain ⟨x,t,rfl,z,zs⟩ := q
  exact .cons z (Ad.append zs r)
theorem Aa.tup {ds : List PyData} (h : H a = some (.tup xs)) (r : Ad p H ds xs) : Aa p H (.tuple ds) (.ref a) := by unfold Aa; exact ⟨a,xs,rfl,h,r⟩
theorem Aa.lst {ds : List PyData} (n : a ≠ p) (h : H a = some (.lst xs)) (r : Ad p H ds xs) : Aa p H (.list ds) (.ref a) := by unfold Aa; exact ⟨a,xs,rfl,n,h,r⟩
theorem Aa.int {i : Int} : Aa p H (.int i) (.int i) := by unfold Aa; rfl
theorem Aa.bl {i : Bool} : Aa p H (.bool i) (.bl i) := by unfold Aa; rfl
theorem Aa.str {i : Str} : Aa p H (.str i) (.str i) := by unfold Aa; rfl
theorem Aa.non : Aa p H .none .non := by unfold Aa; rfl
def JH (x : V) (H : Hp) (n : String) : Prop := match x with
 | .non => n = "NoneType" | .bl _ => n = "bool" | .int _ => n = "int" | .str _ => n = "str"
 | .ref a => (n = "tuple" /\ ∃ xs,H a = some (.tup xs)) \/ (n = "list" /\ ∃ xs,H a = some (.lst xs)) \/ (n = "dict" /\ ∃ kvs,H a = some (.dK kvs))
 | _ => False
def Ng : PyData -> String
 | .none => "NoneType" | .bool _ => "bool" | .int _ => "int" | .str _ => "str" | .tuple _ => "tuple" | .list _ => "list" | .dict _ => "dict"
def Hw (n T : String) : Bool := n == T || (n == "bool" && T == "int")
theorem Aa.ty {v : V} : ∀ {d : PyData},Aa p H d v -> JH v H (Ng d)
 | .none,q => by unfold Aa at q; subst q; rfl
 | .bool _,q => by unfold Aa at q; subst q; rfl
 | .int _,q => by unfold Aa at q; subst q; rfl
 | .str _,q => by unfold Aa at q; subst q; rfl
 | .tuple ds,q => by unfold Aa at q; obtain ⟨a,xs,rfl,h,_⟩ := q; exact .inl ⟨rfl,xs,h⟩
 | .list ds,q => by unfold Aa at q; obtain ⟨a,xs,rfl,_,h,_⟩ := q; exact .inr (.inl ⟨rfl,xs,h⟩)
 | .dict kvs,q => by unfold Aa at q; obtain ⟨a,ks,rfl,_,_,h⟩ := q; exact .inr (.inr ⟨rfl,ks,h⟩)
def JI : List V -> Hp -> VK -> Prop := fun xs H Q => match xs with
 | [x,.ty T] => ∃ n,JH x H n /\ (T = "int" \/ T = "bool" \/ T = "tuple" \/ T = "list" \/ T = "str") /\ Q (.bl (Hw n T)) H
 | _ => False
section
variable {X : Cx}
theorem boot_int : bootBuiltins "int" = some (.type "int") := by decide +kernel
theorem boot_bool : bootBuiltins "bool" = some (.type "bool") := by decide +kernel
theorem Ci : bootBuiltins "tuple" = some (.type "tuple") := by decide +kernel
theorem Hx : bootBuiltins "list" = some (.type "list") := by decide +kernel
theorem Hy : Bu X (.builtin "isinstance") JI := by
 intro pins s σ H xs us Q I r h
 unfold JI at h
 split at h
 ·rename_i x T
  obtain ⟨n,ht,hT,q⟩ := h
  obtain ⟨u,v,rfl,ru,rv⟩ := r.two
  cases rv
  have yes : ∀ s' : Shared,Ac X pins σ H s' -> Hw n T = true -> EP X pins σ Q (.bool true) s' := fun s' I' e => ⟨.bl true,H,I',rfl,by rw [e] at q; exact q⟩
  have no : Hw n T = false -> EP X pins σ Q (.bool false) { s with toks := s.toks + 1 } := fun e => ⟨.bl false,H,I.tok _,rfl,by rw [e] at q; exact q⟩
  cases x with
  | non =>
   have e : n = "NoneType" := ht
   subst e; cases ru
   rcases hT with rfl | rfl | rfl | rfl | rfl
   ·exact IsiPair.NoneType_int (no rfl)
   ·exact IsiPair.NoneType_bool (no rfl)
   ·exact IsiPair.NoneType_tuple (no rfl)
   ·exact IsiPair.NoneType_list (no rfl)
   ·exact IsiPair.NoneType_str (no rfl)
  | bl k =>
   have e : n = "bool" := ht
   subst e; cases ru
   rcases hT with rfl | rfl | rfl | rfl | rfl
   ·exact IsiPair.bool_int (yes _ I rfl)
   ·exact IsiPair.bool_bool (yes _ I rfl)
   ·exact IsiPair.bool_tuple (no rfl)
   ·exact IsiPair.bool_list (no rfl)
   ·exact IsiPair.bool_str (no rfl)
  | int k =>
   have e : n = "int" := ht
   subst e; obtain ⟨t,rfl⟩ := ru
   rcases hT with rfl | rfl | rfl | rfl | rfl
   ·exact IsiPair.int_int (yes _ I rfl)
   ·exact IsiPair.int_bool (no rfl)
   ·exact IsiPair.int_tuple (no rfl)
   ·exact IsiPair.int_list (no rfl)
   ·exact IsiPair.int_str (no rfl)
  | str k =>
   have e : n = "str" := ht
   subst e; obtain ⟨t,rfl⟩ := ru
   rcases hT with rfl | rfl | rfl | rfl | rfl
   ·exact IsiPair.str_int (no rfl)
   ·exact IsiPair.str_bool (no rfl)
   ·exact IsiPair.str_tuple (no rfl)
   ·exact IsiPair.str_list (no rfl)
   ·exact IsiPair.str_str (yes _ I rfl)
  | ref a =>
   cases ru
   have ht' : (n = "tuple" /\ ∃ xs,H a = some (.tup xs)) \/ (n = "list" /\ ∃ xs,H a = some (.lst xs)) \/ (n = "dict" /\ ∃ kvs,H a = some (.dK kvs)) := ht
   rcases ht' with ⟨e,xs,hx⟩ | ⟨e,xs,hx⟩ | ⟨e,xs,hx⟩
   ·subst e
    obtain ⟨_,its,_,o,ho,hc,_⟩ := I.hok a _ hx
    rcases hT with rfl | rfl | rfl | rfl | rfl
    ·exact IsiPair.tuple_int ho hc (no rfl)
    ·exact IsiPair.tuple_bool ho hc (no rfl)
    ·exact IsiPair.tuple_tuple ho hc (yes _ I rfl)
    ·exact IsiPair.tuple_list ho hc (no rfl)
    ·exact IsiPair.tuple_str ho hc (no rfl)
   ·subst e
    obtain ⟨_,its,k,_,ho⟩ := I.hok a _ hx
    rcases hT with rfl | rfl | rfl | rfl | rfl
    ·exact IsiPair.list_int ho rfl (no rfl)
    ·exact IsiPair.list_bool ho rfl (no rfl)
    ·exact IsiPair.list_tuple ho rfl (no rfl)
    ·exact IsiPair.list_list ho rfl (yes _ I rfl)
    ·exact IsiPair.list_str ho rfl (no rfl)
   ·subst e
    obtain ⟨_,_,vs,_,o,es,ep,ho,hc,_⟩ := I.hok a _ hx
    have hc' : o.cls = .type "dict" := hc.1
    rcases hT with rfl | rfl | rfl | rfl | rfl
    ·exact IsiPair.dict_int ho hc' (no rfl)
    ·exact IsiPair.dict_bool ho hc' (no rfl)
    ·exact IsiPair.dict_tuple ho hc' (no rfl)
    ·exact IsiPair.dict_list ho hc' (no rfl)
    ·exact IsiPair.dict_str ho hc' (no rfl)
  | byt _ => exact (show False from ht).elim
  | flt _ => exact (show False from ht).elim
  | ty _ => exact (show False from ht).elim
 ·exact h.elim
theorem Fu (hc : X.calm = true) : Bu X (.builtin "all") (fun xs H Q => ∃ (p : Addr) (bs : List Bool),xs = [.ref p] /\ H p = some (.lst (bs.map V.bl)) /\ Q (.bl (bs.all id)) H) := by
 intro pins s σ H xs us Q I r h
 obtain ⟨p,bs,rfl,hp,q⟩ := h
 obtain ⟨u,rfl,ru⟩ := r.one
 cases ru
 obtain ⟨its,rv,pl,hz⟩ := I.list (Am.of hp)
 refine call_all_walk (wpAny_pyIter_list pl.isList ?_)
 obtain ⟨ol,_,hol,_⟩ := id pl
 have hlt := Heap.lt_size hol
 refine ⟨s.heap.objs.size,_,_,_,_,_,fun i => bs.getD i false,rfl,Walks.list (A := X.A.in1) (I.ok.hd hc) s.heap.objs.size p (Nat.ne_of_lt hlt) its.toArray,⟨⟨_,Heap.get?_push_size _ rfl,rfl,rfl⟩,?_⟩,fun i v s' Q' E' hi hq => ?_,fun h' tk hk => ?_⟩
 ·exact pl.isList.at fun o e => Heap.get?_push_of_some _ e
 ·have hi' : its[i]? = some v := by simpa using hi
  have hl := rv.length
  have hb : i < bs.length := by have := (List.getElem?_eq_some_iff.mp hi').1; simp at hl; omega
  obtain ⟨u,hu,ru⟩ := rv.get (i := i) (x := .bl bs[i]) (by simp [hb])
  rw [hi'] at hu; cases hu; cases ru
  dsimp only at hq; rw [List.getD_eq_getElem?_getD,List.getElem?_eq_getElem hb] at hq
  exact wpAny_truthy_bool hq
 ·have hl := rv.length
  simp at hl
  have e : (List.range its.toArray.size).all (fun i => bs.getD i false) = bs.all id := by
   rw [List.size_toArray,<- hl,Bool.eq_iff_iff]
   simp only [List.all_eq_true,List.mem_range,id]
   constructor
   ·intro h x hx
    obtain ⟨i,hi,e⟩ := List.mem_iff_getElem.mp hx
    have := h i hi
    rw [List.getD_eq_getElem?_getD,List.getElem?_eq_getElem hi] at this
    rw [<- e]; exact this
   ·intro h i hi
    rw [List.getD_eq_getElem?_getD,List.getElem?_eq_getElem hi]
    exact h _ (List.getElem_mem hi)
  rw [e]
  refine ⟨.bl (bs.all id),H,I.kept fun b o eb => hk b o ?_ (Heap.get?_push_of_some _ eb),rfl,q⟩
  intro z
  have z' : b = s.heap.objs.size := by simpa using z
  exact absurd (Heap.lt_size eb) (by rw [z']; exact Nat.lt_irrefl _)
end
end L2
end
section
namespace L2
open PySem PySem.Spec PyProof.Rows
open AutoSeq1 (wpAny_loadPart')
section
variable {X : Cx}
def DZ (H : Hp) (xs : List V) (Q : VK) : Prop := ∀ r H',Ab H H' -> H' r = some (.tup xs) -> Q (.ref r) H'
theorem Ac.gotNew {pins : List (Addr × Obj)} {σ : St} {H : Hp} {s : Shared} {Q : VK} {xs : List V} {us : List Value} {t' : Nat} (I : Ac X pins σ H s) (q : DZ H xs Q) (rv : At xs us) (hz : xs.length <= sizeLine) :
  EP X pins σ Q (.ref s.heap.objs.size) { s with heap := s.heap.push { cls := .type "tuple",data := .seq us.toArray },toks := t' } :=
 ⟨.ref s.heap.objs.size,_,I.laid (o := .tup xs) (fun b ob e => Heap.get?_push_of_some _ e) (Nat.le_refl _) ⟨hz,us,rv,IsTup.new _ _⟩,rfl,q _ _ (Ab.new (I.hok.fresh (Nat.le_refl _))) Ai⟩
def Nh : R2 := fun x y H Q => ∃ a b xs ys,x = .ref a /\ y = .ref b /\ H a = some (.tup xs) /\ H b = some (.tup ys) /\ xs.length + ys.length <= 1000 /\ DZ H (xs ++ ys) Q
theorem DD : OpR X (binaryOp .Add) Nh := by
 intro pins s σ H x y v u Q I rx ry h
 obtain ⟨a,b,xs,ys,rfl,rfl,ha,hb,hz,q⟩ := h
 cases rx; cases ry
 obtain ⟨its,r1,ht,_⟩ := I.tuple (Af.of ha)
 obtain ⟨its2,r2,ht2,_⟩ := I.tuple (Af.of hb)
 obtain ⟨⟨cls,dd,data,sl⟩,ho,hc,n,hd⟩ := id ht; obtain ⟨⟨cls2,dd2,data2,sl2⟩,ho2,hc2,n2,hd2⟩ := id ht2; simp only at hc hd hc2 hd2; subst hc hd hc2 hd2
 have hl1 := r1.length; have hl2 := r2.length
 have hs : (1000 : Nat) <= sizeLine := by decide
 by_cases hv : its = []
 ·have e : xs = [] := by subst hv; cases r1; rfl
  refine concat_meets ⟨_,ho,rfl⟩ ⟨_,ho2,rfl⟩ noFill_tuple_add seq_tuple_add PySem.F.slot_tuple_add PySem.F.entry_tuple_add (PySem.F.args_tuple_add_2 _ _) (tuple_addW0 a b its.toArray its2.toArray n n2 dd dd2 sl sl2 (by simp [hv])) ⟨ho,ho2,?_⟩
  exact ⟨.ref b,H,I,rfl,q b H (Ab.refl _) (by rw [e]; exact hb)⟩
 ·by_cases hw : its2 = []
  ·have e : ys = [] := by subst hw; cases r2; rfl
   refine concat_meets ⟨_,ho,rfl⟩ ⟨_,ho2,rfl⟩ noFill_tuple_add seq_tuple_add PySem.F.slot_tuple_add PySem.F.entry_tuple_add (PySem.F.args_tuple_add_2 _ _) (tuple_addW1 a b its.toArray its2.toArray n n2 dd dd2 sl sl2 (by simpa using hv) (by simp [hw])) ⟨ho,ho2,?_⟩
   exact ⟨.ref a,H,I,rfl,q a H (Ab.refl _) (by rw [e,List.append_nil]; exact ha)⟩
  ·refine concat_meets ⟨_,ho,rfl⟩ ⟨_,ho2,rfl⟩ noFill_tuple_add seq_tuple_add PySem.F.slot_tuple_add PySem.F.entry_tuple_add (PySem.F.args_tuple_add_2 _ _)
    (tuple_addW2 a b its.toArray its2.toArray n n2 dd dd2 sl sl2 (by simpa using hv) (by simpa using hw) (by rw [List.size_toArray,List.size_toArray]; omega)) ⟨ho,ho2,?_⟩
   have e : its.toArray ++ its2.toArray = (its ++ its2).toArray := by simp
   rw [e]
   exact I.gotNew (t' := s.toks) q (r1.append r2) (by rw [List.length_append]; omega)
theorem Ni {t sl : Addr} {items : Array Value} {vl vu : Value} {lo hi : Option Int} {Q : Value -> Shared -> Prop} {prog : Program} {w : World} {A : Around} {E : Value -> Shared -> Prop} {s : Shared} (ht : IsTup s.heap t items) (hs : s.heap.IsSliceOf sl vl vu .none) (pl : IsPart vl lo) (pu : IsPart vu hi)
  (hw : HT.sIx items.size 0 lo = 0 /\ HT.sIx items.size items.size hi = items.size) (h : Q (.ref t) s) : wpAny (model prog w) A (getItem (.ref t) (.ref sl)) Q E s := by
 obtain ⟨os,hos,hcs,hds⟩ := id hs
 have hTs : s.TypeIs (.ref sl) "slice" := ⟨os,hos,hcs⟩
 unfold getItem
 try with_reducible refine wpAny_holding ?_
 first | refine wpAny_bind (wpAny_pure ?_) | skip
 refine wpAny_bind (wpAny_sequenceKey ht.typeIs (by decide) ?_)
 refine wpAny_bind (wpAny_callSpecial?_slot (name := Str.ofString "__getitem__") ht.typeIs PyProof.Rows.slot_tuple_getitem (wpAny_call_entry PyProof.Rows.slot_tuple_getitem ht.typeIs entry_tuple_getitem ?_ (args_tuple_getitem _ _)))
 show wpAny _ _ (Builtin.Tuple.tupleItemsOf (.ref t) >>= _) _ _ s; refine wpAny_bind (tupleItemsOf_ ht ?_); refine wpAny_bind (wpAny_typeOf hTs ?_); rw [if_pos (by decide)]
 refine wpAny_bind (HT.sliceApplied_gen hs pl pu ?_)
 rw [hw.1,hw.2]
 show wpAny _ _ (if (((0 : Nat) : Int) == 0 && (1 : Int) == 1 && (items.size - 0) == items.size) = true then _ else _) _ _ s
 rw [if_pos (by simp)]
 refine wpAny_bind (m := Builtin.Tuple.tupleIsExact _) ?_
 unfold Builtin.Tuple.tupleIsExact
 refine wpAny_bind (wpAny_typeOf ht.typeIs (wpAny_pure ?_))
 rw [if_pos (by decide)]
 exact wpAny_bind (wpAny_rule (wpAny_pure ⟨_,rfl,wpAny_pure h⟩))
def Nj : V -> Option Int -> Option Int -> Hp -> VK -> Prop := fun x lo hi H Q => ∃ a xs,x = .ref a /\ H a = some (.tup xs) /\ DZ H (Bh xs lo hi) Q
theorem s_tup : Fa X Nj := by
 intro pins s σ H x v vl vu lo hi sl Q I rx hs pl pu h
 obtain ⟨a,xs,rfl,ha,q⟩ := h
 cases rx
 obtain ⟨its,r,ht,hz⟩ := I.tuple (Af.of ha)
 have hlen : its.toArray.size = xs.length := by rw [List.size_toArray]; exact r.length.symm
 refine ⟨"tuple",_,PyProof.Rows.slot_tuple_getitem.lookup,ht.typeIs,?_⟩
 by_cases hw : HT.sIx xs.length 0 lo = 0 /\ HT.sIx xs.length xs.length hi = xs.length
 ·refine Ni ht hs pl pu (by rw [hlen]; exact hw) ⟨.ref a,H,I,rfl,q a H (Ab.refl _) ?_⟩
  unfold Bh
  rw [hw.1,hw.2,List.drop_zero,Nat.sub_zero,List.take_length]
  exact ha
 ·refine HT.getItem_tuple_cut ht hs pl pu (by rw [hlen]; exact hw) ?_ (by rw [hlen]; exact hz)
  rw [hlen]
  have e : its.toArray.toList = its := rfl
  rw [e]
  exact I.gotNew (t' := s.toks) q ((r.drop _).take _) (Nat.le_trans (Fb xs lo hi) hz)
theorem JJ : fillsNumberSlot (.type "tuple") "mul" = pure false :=
 PySem.fillsNumberSlot_seq (id := "tuple.__mul__") (r := some (.builtin "tuple.__rmul__")) F.slot_tuple_mul.lookup (by decide +kernel) F.slot_tuple_rmul.lookup (by decide +kernel)
theorem JK : seqRepeat? (.type "tuple") = pure (some (.builtin "tuple.__mul__")) := by
 unfold seqRepeat?; rw [PySem.seqSlot_of (T := "tuple") (name := "__mul__") (id := "tuple.__mul__") F.slot_tuple_mul.lookup (by decide +kernel),PySem.seqSlot_of (T := "tuple") (name := "__rmul__") (id := "tuple.__rmul__") F.slot_tuple_rmul.lookup (by decide +kernel)]; rfl
theorem JL (a : Int) (t : Tok) (l : Addr) (items : Array Value) (n : Nat) (dd : Option Addr) (sl : Array (Option Value)) :
  Meets (Builtin.«int.__rmul__» ⟨[.int a t,.ref l],[]⟩) (fun _ R s => s.heap.get? l = some { cls := .type "tuple",dict := dd,data := .seq items n,slots := sl } /\ R (.ok (.ret Value.notImplemented)) s) :=
 .of_wp fun prog w A R s h => by obtain ⟨hp,g,d,tk,os⟩ := s; obtain ⟨hl,h⟩ := h; wp_walk using wpAny_loadPart' hl; exact ⟨_,rfl,h⟩
theorem Nk (l : Addr) (items : Array Value) (n : Nat) (dd : Option Addr) (sl : Array (Option Value)) (x : Int) (u : Tok) (hc0 : ¬ (decide (x < -(2 ^ 63)) || decide (x ≥ 2 ^ 63)) = true) (hc1 : ¬ (items.isEmpty || x == 1) = true) (hc2 : ¬ (decide (x <= 0) || items.isEmpty) = true)
  (hc3 : ¬ (items.size : Int) * x > (2 ^ 63 - 1) / 8) (hc4 : ¬ Builtin.Tuple.tupleTooMany ((items.size : Int) * x) = true) (hsz : sizeOk (.seq ((List.replicate x.toNat items).foldl (fun a b => a ++ b) #[]))) :
  Meets (Builtin.«tuple.__mul__» ⟨[.ref l,.int x u],[]⟩) (fun _ R s => s.heap.get? l = some { cls := .type "tuple",dict := dd,data := .seq items n,slots := sl } /\ R (.ok (.ret (Value.ref s.heap.objs.size))) { s with heap := s.heap.push { cls := Value.type "tuple",data := Data.seq ((List.replicate x.toNat items).foldl (fun a b => a ++ b) #[]) } }) :=
 .of_wp fun prog w A R s h => by
  obtain ⟨hp,g,d,tk,os⟩ := s; obtain ⟨hl,h⟩ := h; have f1 := AutoSeq1.idx_int; have f2 := AutoSeq1.sub_tuple_tuple
  wp_walk using wpAny_loadPart' hl
  rw [if_neg hc0]
  refine wpAny_bind (tupleItemsOf_ (items := items) ⟨_,hl,rfl,n,rfl⟩ ?_)
  dsimp only
  rw [if_neg hc1,if_neg hc2,if_neg hc3,if_neg hc4]
  exact wpAny_bind (m := Builtin.Tuple.tupleExact _) (wpAny_newObj_type (wpAny_pure ⟨_,rfl,h⟩) hsz)
def Nl : R2 := fun x y H Q => ∃ a k xs,x = .ref a /\ y = .int k /\ H a = some (.tup xs) /\ xs ≠ [] /\ 2 <= k /\ k <= 100 /\ xs.length <= 100 /\ DZ H (List.replicate k.toNat xs).flatten Q
theorem HE : OpR X (binaryOp .Mult) Nl := by
  intro pins s σ H x y v u Q I rx ry h
  obtain ⟨a,k,xs,rfl,rfl,ha,hx,h1,h2,h3,q⟩ := h
  cases rx
  obtain ⟨t,rfl⟩ := ry
  obtain ⟨its,r,ht,hz⟩ := I.tuple (Af.of ha)
  obtain ⟨⟨cls,dd,data,sl⟩,ho,hc,n,hd⟩ := id ht; simp only at hc hd; subst hc hd
  have hl := r.length
  refine wpAny_binaryOp_repeat_ref (T := "tuple") (U := "int") (by decide) ⟨_,ho,rfl⟩ (fun s' => typeIs_int s' k t) JJ F.fills_int_mul F.slot_int_rmul JK F.slot_int_index.lookup
    (call_meets F.slot_int_rmul (typeIs_int s k t) F.entry_int_rmul (F.args_int_rmul_2 _ _) (JL k t a its.toArray n dd sl) ⟨ho,rfl,⟨_,ho,rfl⟩,?_⟩)
  have hx' : ¬ its.toArray.isEmpty = true := by
    intro z
    have z' : its = [] := by simpa using z
    subst z'; cases r; exact hx rfl
  have fl : (List.replicate k.toNat its.toArray).foldl (fun a b => a ++ b) #[] = (List.replicate k.toNat its).flatten.toArray := by
    have := GY its k.toNat []
    rw [List.nil_append] at this
    exact this
  have hp1 : (its.length : Int) * k <= 100 * 100 := Int.mul_le_mul (by omega) (by omega) (by omega) (by omega)
  have hlen : (List.replicate k.toNat its).flatten.length <= 10000 := by
    rw [GZ]
    have : k.toNat * its.length <= 100 * 100 := Nat.mul_le_mul (by omega) (by omega)
    omega
  have hbig : (10000 : Nat) <= sizeLine := by decide
  refine call_meets F.slot_tuple_mul ⟨_,ho,rfl⟩ F.entry_tuple_mul (F.args_tuple_mul_2 _ _) (Nk a its.toArray n dd sl k t (by simp; omega) (by simp only [hx',Bool.false_or]; simp; omega) (by simp only [hx',Bool.or_false]; simp; omega) (by rw [List.size_toArray]; omega)
    (by unfold Builtin.Tuple.tupleTooMany; rw [List.size_toArray]; simp; have : (sizeLine : Int) = 16777216 := by decide
        omega) (by rw [fl]; show (List.replicate k.toNat its).flatten.toArray.size <= sizeLine; rw [List.size_toArray]; omega)) ⟨ho,?_⟩
  rw [fl]
  exact I.gotNew (t' := s.toks) q (r.rep k.toNat) (by rw [GZ] at hlen ⊢; rw [hl]; omega)
end
end L2
end
section
namespace L2
open PySem PySem.Spec PyProof.Rows
open AutoSeq1 (wpAny_loadPart')
section
variable {X : Cx}
def Nm : List (PyData × PyData) -> Nat | [] => 2 | [(.int i,.int j)] => if i = 0 /\ j = 1 then 6 else 10 ^ 9 | _ => 10 ^ 9
mutual
def HF : PyData -> Nat
 | .none => 4 | .bool _ => 5 | .int i => if i.natAbs < 10 ^ 31 then 40 else 10 ^ 9 | .str x => (reprText x).length
 | .tuple ds => HG ds + 4 | .list ds => HG ds + 4 | .dict kvs => Nm kvs
def HG : List PyData -> Nat
 | [] => 0
 | d :: ds => HF d + 2 + HG ds
end
end
end L2
end
section
namespace L2
open PySem PySem.Spec PyProof.Rows
section
variable {X : Cx} {pins : List (Addr × Obj)} {σ : St} {H : Hp} {s : Shared}
mutual
theorem Aa.reads {p : Addr} (I : Ac X pins σ H s) : ∀ (d : PyData) (v : V) (u : Value),d.hasDict = false -> Aa p H d v -> Aw v u -> ∃ as,Reads s.heap u d as
 | .none,v,u,_,r,q => by unfold Aa at r; subst r; cases q; exact ⟨_,.none⟩
 | .bool b,v,u,_,r,q => by unfold Aa at r; subst r; cases q; exact ⟨_,.bool b⟩
 | .int i,v,u,_,r,q => by unfold Aa at r; subst r; obtain ⟨t,rfl⟩ := q; exact ⟨_,.int i t⟩
 | .str x,v,u,_,r,q => by unfold Aa at r; subst r; obtain ⟨t,rfl⟩ := q; exact ⟨_,.str x t⟩
 | .tuple ds,v,u,hd,r,q => by
  unfold Aa at r
  obtain ⟨a,xs,rfl,ha,rs⟩ := r
  cases q
  obtain ⟨its,rv,⟨o,ho,hc,n,hdt⟩,_⟩ := I.tuple (Af.of ha)
  obtain ⟨as,ra⟩ := Ad.reads I ds xs its (by unfold PyData.hasDict at hd; exact hd) rs rv
  exact ⟨as,.tuple ho hc hdt ra⟩
 | .list ds,v,u,hd,r,q => by
  unfold Aa at r
  obtain ⟨a,xs,rfl,_,ha,rs⟩ := r
  cases q
  obtain ⟨its,rv,⟨o,n,ho,hc,_,hdt⟩,_⟩ := I.list (Am.of ha)
  obtain ⟨as,ra⟩ := Ad.reads I ds xs its (by unfold PyData.hasDict at hd; exact hd) rs rv
  exact ⟨a :: as,.list ho hc hdt ra⟩
 | .dict kvs,v,u,hd,_,_ => by unfold PyData.hasDict at hd; cases hd
theorem Ad.reads {p : Addr} (I : Ac X pins σ H s) : ∀ (ds : List PyData) (xs : List V) (us : List Value),PyData.hasDictAll ds = false -> Ad p H ds xs -> At xs us -> ∃ as,ReadsAll s.heap us ds as
 | [],xs,us,_,r,q => by unfold Ad at r; subst r; cases q; exact ⟨_,.nil⟩
 | d :: ds,xs,us,hd,r,q => by
  unfold Ad at r
  obtain ⟨x,t,rfl,rx,rt⟩ := r
  unfold PyData.hasDictAll at hd
  obtain ⟨h1,h2⟩ := Bool.or_eq_false_iff.mp hd
  cases q with
  | cons q1 q2 =>
   obtain ⟨as,ra⟩ := Aa.reads I d x _ h1 rx q1
   obtain ⟨bs,rb⟩ := Ad.reads I ds t _ h2 rt q2
   exact ⟨as ++ bs,.cons ra rb⟩
end
mutual
def JM : PyData -> Bool
 | .list _ => false | .tuple ds => JN ds | .none => true | .bool _ => true | .int _ => true | .str _ => true | .dict _ => true
def JN : List PyData -> Bool
 | [] => true
 | d :: ds => JM d && JN ds
end
structure Nice (d : PyData) : Prop where
 w : HF d <= 1000000
 dp : d.depth <= 20
 nd : d.hasDict = false \/ JM d = true
theorem Ac.big (I : Ac X pins σ H s) : sysModules < s.heap.objs.size := by
 have h : mainGlobals < s.heap.objs.size := (I.mod.glob.keeps I.bk).lt
 exact Nat.lt_trans (by decide) h
end
section
variable {X : Cx} {P : Program} {w : World}
theorem Bz (K : PySem.W.Frag) (h : X.K = K := by rfl) : EB X (GU K) := h ▸ Me
theorem AT (K : PySem.W.Frag) (h : X.K = K := by rfl) : EB X (Jf K) := h ▸ Mf
theorem JO (K : PySem.W.Frag) (h : X.K = K := by rfl) : Fa X (Jh K) := h ▸ Ml
theorem EG (K : PySem.W.Frag) (h : X.K = K := by rfl) : OpR X (compareOp .In) (Jj K false) := h ▸ Mn
def Nn (K : PySem.W.Frag) : List V -> Hp -> VK -> Prop := fun xs H Q => ∃ p ys,xs = [.ref p] /\ (Am K H p ys \/ Af K H p ys) /\ Q (.int (ys : List V).length) H
theorem BM (K : PySem.W.Frag) (h : X.K = K := by rfl) : Bu X (.builtin "len") (Nn K) := h ▸ Mo
def No (K : PySem.W.Frag) : List V -> Hp -> VK -> Prop := fun xs H Q => ∃ p ys,xs = [.ref p] /\ (Am K H p ys \/ Af K H p ys) /\ ∀ l,H l = none -> Q (.ref l) (upd H l (.lst ys))
theorem Np (K : PySem.W.Frag) (h : X.K = K := by rfl) : Bu X (.type "list") (No K) := h ▸ Mp
def Nq (K : PySem.W.Frag) : List V -> Hp -> VK -> Prop := fun xs H Q => ∃ p ys,xs = [.ref p] /\ ((Am K H p ys /\ ∀ l,H l = none -> Q (.ref l) (upd H l (.tup ys))) \/ (Af K H p ys /\ Q (.ref p) H))
theorem CB (K : PySem.W.Frag) (h : X.K = K := by rfl) : Bu X (.type "tuple") (Nq K) := h ▸ Mq
theorem AI (K : PySem.W.Frag) {es : List Expr} {k : Nat} {t : C7} {n : Nat} {pos : Pos} (h : Ex X es t) (hK : X.K = K := by rfl) (hc : X.calm = true := by rfl) (hn : (assignEach es X.env).length = n := by rfl) (hst : (assignEach es X.env).findIdx? (·.1) = none := by rfl) :
  PG X (.Tuple es k pos) (IB K n t) := hK ▸ Lu hc h hn hst
theorem Dd (K : PySem.W.Frag) {tg l : Expr} {tl : TE} (hl : PE X l tl) (h : X.K = K := by rfl) : PI X tg l (IG K tl) := h ▸ LE hl
theorem Cj (K : PySem.W.Frag) {tg l : Expr} {tl : TE} (hl : PE X l tl) (h : X.K = K := by rfl) : PI X tg l (IH K tl) := h ▸ LF hl
theorem Fv (P : Program) (w : World) (K : PySem.W.Frag) {es : List Expr} {k : Nat} {p pos pos' : Pos} {a : Expr} {ta : TA} (hg : Gl X "enumerate") (hm : X.mg "enumerate" = none) (ha : PA X [a] ta) (hP : X.prog = P := by rfl) (hw : X.w = w := by rfl) (hK : X.K = K := by rfl) (hs : starEach [a] X.env = [(false,eval a X.env)] := by rfl) :
  PI X (.Tuple es k pos') (.Call (.Name "enumerate" p) [a] [] pos) (Jy (Cg P w K) ta) := by subst hP hw hK; exact MQ hg hm ha hs
theorem Nr (P : Program) (w : World) (K : PySem.W.Frag) {es : List Expr} {k : Nat} {p pos pos' : Pos} {e1 e2 : Expr} {ta : TA} (hg : Gl X "zip") (hm : X.mg "zip" = none) (ha : PA X [e1,e2] ta) (hP : X.prog = P := by rfl) (hw : X.w = w := by rfl) (hK : X.K = K := by rfl)
  (hs : starEach [e1,e2] X.env = [(false,eval e1 X.env),(false,eval e2 X.env)] := by rfl) (hs2 : starEach [e2] X.env = [(false,eval e2 X.env)] := by rfl) :
  PI X (.Tuple es k pos') (.Call (.Name "zip" p) [e1,e2] [] pos) (EE (Cg P w K) (Hu P w K) ta) := by subst hP hw hK; exact MZ hg hm ha hs hs2
theorem JP (P : Program) (w : World) (K : PySem.W.Frag) {es : List Expr} {k : Nat} {p pos pos' : Pos} {e1 e2 : Expr} {ta : TA} (hg : Gl X "zip") (hm : X.mg "zip" = none) (ha : PA X [e1,e2] ta) (hP : X.prog = P := by rfl) (hw : X.w = w := by rfl) (hK : X.K = K := by rfl)
  (hs : starEach [e1,e2] X.env = [(false,eval e1 X.env),(false,eval e2 X.env)] := by rfl) (hs2 : starEach [e2] X.env = [(false,eval e2 X.env)] := by rfl) :
  PI X (.Tuple es k pos') (.Call (.Name "zip" p) [e1,e2] [] pos) (EE (Cg P w K) (Cg P w K) ta) := by subst hP hw hK; exact M0 hg hm ha hs hs2
end
section
variable {X : Cx}
def Nt : List V -> Hp -> VK -> Prop := fun xs H Q => ∃ (p : Addr) (ns : List Int),xs = [.ref p] /\ H p = some (.lst (ns.map V.int)) /\ Q (.int ns.sum) H
theorem HH : ∀ {ns : List Int} {us : List Value},At (ns.map V.int) us -> IntsAre us ns
 | [],us,h => by cases h; exact .nil
 | n :: ns,us,h => by
  cases h with
  | cons r t => obtain ⟨k,rfl⟩ := r; exact .cons n k (HH t)
theorem Fw (hc : X.calm = true) : Bu X (.builtin "sum") Nt := by
 intro pins s σ H xs us Q I r h
 obtain ⟨p,ns,rfl,hp,q⟩ := h
 obtain ⟨u,rfl,ru⟩ := r.one
 cases ru
 obtain ⟨its,rv,pl,hz⟩ := I.list (Am.of hp)
 have hi := HH rv
 obtain ⟨xs,hx⟩ := AllInts.items hi.allInts
 have hl : s.heap.IsList p (intItems xs) := hx ▸ pl.isList
 refine sum_intListG (I.ok.hd hc) hl fun h' tk t' hk => ?_
 have e1 : ns = xs.toList.map (fun x => x.fst) := by rw [<- nums_intItems,<- hx,List.toList_toArray,hi.numsOf]
 have e2 : preSum (numAt xs) xs.size = ns.sum := by
  rw [preSum_eq,List.take_of_length_le (by simp),<- e1]
 rw [e2]
 exact ⟨.int ns.sum,H,I.kept fun b o eb => hk b o eb,⟨t',rfl⟩,q⟩
end
def EH (lo st : Int) (n : Nat) : It := { go := fun i _ => i < n,yld := fun i H x H' => H' = H /\ x = .int (lo + i * st),stop := fun i _ => n <= i }
theorem Nu {P : Program} {w : World} {K : PySem.W.Frag} {tg : Expr} (it : Addr) (lo st : Int) (n : Nat) : CJ P w K tg (EH lo st n) [it] it (fun i h => IsRangeIter h it (lo + (i : Nat) * st) ((n : Int) - (i : Nat)) st) where
 mem := by simp
 obj := fun i h hs b hb => by
  obtain rfl : b = it := by simpa using hb
  exact ⟨_,hs,fun v z => by
   have z' : Data.fields _ = Data.cell v := z
   cases z'⟩
 keep := fun i h h' hs k => k it (by simp) _ hs
 item := by
  intro X hP hw hK hc i pins s σ H E I hf hs hg
  subst hP hw hK
  obtain ⟨f0,f1,f2,f3,f4,f5⟩ := hf it (by simp)
  have W := Walks.range (prog := X.prog) (w := X.w) (I.ok.hd hc) it lo st n
  refine W.item i s _ _ hg hs fun v h' tk hv st' kk => ?_
  obtain ⟨t,rfl⟩ := hv
  have I1 : Ac X pins σ H { s with heap := h',toks := tk } := I.turned (fun b o hb e => kk b o (by simpa using hb) e) f0 f1 f3 f4 f5
  exact ⟨_,rfl,E5 (s := { s with heap := h',toks := tk }) (n := "range_iterator") st' rfl rfl (by decide) ⟨.int (lo + i * st),H,I1,⟨t,rfl⟩,⟨rfl,rfl⟩,st',fun b hb => (hf b hb).1⟩⟩
 done := by
  intro X hP hw hK hc i pins s σ H E I hf hs hg
  subst hP hw hK
  obtain ⟨f0,f1,f2,f3,f4,f5⟩ := hf it (by simp)
  exact wpAny_pyNext_range_end (I.ok.hd hc) hs (by have : n <= i := hg; omega) fun h' eb => ⟨rfl,I.turned (t' := s.toks) (fun b o hb e => eb b o hb e) f0 f1 f3 f4 f5⟩
 self := fun _ _ _ _ _ hs h => wpAny_pyIter_rangeiter hs h
def CY (i j k : Int) : Nat := (Builtin.Range.rangeSize i j k).toNat
theorem JQ {i j k : Int} (h : 1 <= k) (hi : -1000 <= i) (hj : j <= 1000) : 0 <= Builtin.Range.rangeSize i j k /\ Builtin.Range.rangeSize i j k <= 2001 := by
 unfold Builtin.Range.rangeSize
 rw [if_pos (by omega)]
 split
 ·have h1 : 0 <= (j - i - 1) / k := Int.ediv_nonneg (by omega) (by omega)
  have h2 : (j - i - 1) / k <= (j - i - 1) := Int.ediv_le_self _ (by omega)
  omega
 ·omega
theorem Nv {i j k : Int} (h : 1 <= k) (hk : k <= 1000) (hi : -1000 <= i) (hi' : i <= 1000) (hj : -1000 <= j) (hj' : j <= 1000) : Builtin.Range.small i j k = true := by
 obtain ⟨a,b⟩ := JQ h hi hj'
 have f : ∀ z : Int,-5000 <= z -> z <= 5000 -> Builtin.Range.rangeFitsLong z = true := fun z z1 z2 => by
  unfold Builtin.Range.rangeFitsLong
  simp only [Bool.and_eq_true,decide_eq_true_eq]
  omega
 unfold Builtin.Range.small
 rw [f i (by omega) (by omega),f j (by omega) (by omega),f k (by omega) (by omega),f _ (by omega) (by omega),if_pos (by omega),f (j + (k - 1)) (by omega) (by omega)]
 simp
section
variable {X : Cx} {tg : Expr}
end
theorem Nw {lo st : Int} {n : Nat} {g : TG} {tb : TS} {D : CS} {σ : St} {H : Hp} (Pv : Nat -> St -> Hp -> Prop) (h0 : Pv 0 σ H)
  (hs : ∀ i σ H,i < n -> Pv i σ H -> g (.int (lo + i * st)) σ H fun σ2 H2 => tb { D with nx := Pv (i + 1),ct := Pv (i + 1),bk := D.nx } σ2 H2) (hd : ∀ σ H,Pv n σ H -> D.nx σ H) :
  ∃ W : Nat -> Nat -> St -> Hp -> Prop,(∃ m,W 0 m σ H) /\ ∀ i m σ H,W i m σ H ->
   ((EH lo st n).stop i H /\ D.nx σ H) \/ ((EH lo st n).go i H /\ ∃ N : St -> Hp -> Prop,(∀ σ' H',N σ' H' -> ∃ m',m' < m /\ W (i + 1) m' σ' H') /\ ∀ x H',(EH lo st n).yld i H x H' -> g x σ H' fun σ2 H2 => tb { D with nx := N,ct := N,bk := D.nx } σ2 H2) := by
 refine ⟨fun i m σ H => m = n - i /\ i <= n /\ Pv i σ H,⟨n,by simp,Nat.zero_le _,h0⟩,?_⟩
 rintro i m σ H ⟨rfl,hi,p⟩
 by_cases hlt : i < n
 ·refine .inr ⟨hlt,Pv (i + 1),fun σ' H' p' => ⟨n - (i + 1),by omega,rfl,hlt,p'⟩,fun x H' ⟨e,y⟩ => ?_⟩
  subst e y
  exact hs i σ _ hlt p
 ·obtain rfl : i = n := by omega
  exact .inl ⟨Nat.le_refl _,hd σ H p⟩
end L2
end
section
namespace MF
open PySem PySem.Spec PyProof.Rows L2
variable {α : Type} {i : Nat} {h : Int} {ws : List Bool} {p : Addr} {H : Hp} {xs : List V}
theorem _root_.L2.walk_enum {P : Program} {w : World} {K : PySem.W.Frag} {S : Be P w K} {a : Addr} {xs : List V} {cap : List (Option Nat)} {g : TG} {tt : TT} {te : TE} {σ : L2.St} {Q : List V -> Hp -> Prop} {H : Hp} (Pv : Nat -> List V -> Hp -> Prop) (hn : xs.length <= 100000) (h0 : Pv 0 [] H) (hz : ∀ i zs H,Pv i zs H -> zs.length <= i)
  (hl : ∀ i zs H,Pv i zs H -> S.Sq H a xs)
  (hs : ∀ i x zs H T,xs[i]? = some x -> Pv i zs H -> H T = none -> g (.ref T) (AJ cap σ) (upd H T (.tup [.int i,x])) fun σ2 H2 => Keep (AJ cap σ) σ2 /\ tt σ2 H2 fun b H3 => br b (te σ2 H3 fun y H4 => Pv (i + 1) (zs ++ [y]) H4) (Pv (i + 1) zs H3))
  (hd : ∀ zs H,Pv xs.length zs H -> Q zs H) : DA (DW S a) cap g tt te σ Q H :=
 DV xs.length Pv hn h0 hz (fun i zs H hi p => by
  have q := hl i zs H p
  refine ⟨⟨xs,xs[i],q,by simp [hi]⟩,fun v H' ⟨T,e,n,y⟩ => ?_⟩
  subst e
  rw [y xs xs[i] q (by simp [hi])]
  exact hs i xs[i] zs H T (by simp [hi]) p n)
  fun zs H p => ⟨⟨xs,hl _ zs H p,rfl⟩,hd zs H p⟩
theorem _root_.L2.for_enum {P : Program} {w : World} {K : PySem.W.Frag} {S : Be P w K} {a : Addr} {xs : List V} {g : TG} {tb : TS} {D : CS} {σ : L2.St} {H : Hp} (Pv : Nat -> L2.St -> Hp -> Prop) (h0 : Pv 0 σ H) (hl : ∀ i σ H,Pv i σ H -> S.Sq H a xs)
  (hs : ∀ i x σ H T,xs[i]? = some x -> Pv i σ H -> H T = none -> g (.ref T) σ (upd H T (.tup [.int i,x])) fun σ2 H2 => tb { D with nx := Pv (i + 1),ct := Pv (i + 1),bk := D.nx } σ2 H2) (hd : ∀ σ H,Pv xs.length σ H -> D.nx σ H) :
  ∃ W : Nat -> Nat -> L2.St -> Hp -> Prop,(∃ m,W 0 m σ H) /\ ∀ i m σ H,W i m σ H ->
   ((DW S a).stop i H /\ D.nx σ H) \/ ((DW S a).go i H /\ ∃ N : L2.St -> Hp -> Prop,(∀ σ' H',N σ' H' -> ∃ m',m' < m /\ W (i + 1) m' σ' H') /\ ∀ x H',(DW S a).yld i H x H' -> g x σ H' fun σ2 H2 => tb { D with nx := N,ct := N,bk := D.nx } σ2 H2) := by
 refine ⟨fun i m σ H => m = xs.length - i /\ i <= xs.length /\ Pv i σ H,⟨xs.length,by simp,Nat.zero_le _,h0⟩,?_⟩
 rintro i m σ H ⟨rfl,hi,p⟩
 have q := hl i σ H p
 by_cases hlt : i < xs.length
 ·refine .inr ⟨⟨xs,xs[i],q,by simp [hlt]⟩,Pv (i + 1),fun σ' H' p' => ⟨xs.length - (i + 1),by omega,rfl,hlt,p'⟩,fun x H' ⟨T,e,n,y⟩ => ?_⟩
  subst e
  rw [y xs xs[i] q (by simp [hlt])]
  exact hs i xs[i] σ H T (by simp [hlt]) p n
 ·obtain rfl : i = xs.length := by omega
  exact .inl ⟨⟨xs,q,rfl⟩,hd σ H p⟩
structure PL where
 bs : List (Int × Int)
 es : List (Int × Int × Int)
 lo : Int
 hi : Int
 st : Int
abbrev bD (q : Int × Int) : PyData := .tuple [.int q.1,.int q.2]
abbrev eD (q : Int × Int × Int) : PyData := .tuple [.int q.1,.int q.2.1,.int q.2.2]
def PL.d (P : PL) : PyData := .tuple [.tuple (P.bs.map bD),.tuple (P.es.map eD),.tuple [.int P.lo,.int P.hi,.int P.st]]
structure PL.ok (P : PL) : Prop where
 b : ∀ q ∈ P.bs,1 <= q.1 /\ q.1 <= 9 /\ 1 <= q.2 /\ q.2 <= 9
 b1 : 1 <= P.bs.length
 b4 : P.bs.length <= 4
 e : ∀ q ∈ P.es,1 <= q.1 /\ q.1 <= 9 /\ 0 <= q.2.1 /\ q.2.1 <= 7 /\ 1 <= q.2.2 /\ q.2.2 <= 8
 e4 : P.es.length <= 4
 lo0 : 0 <= P.lo
 ls : P.lo <= P.st
 sh : P.st <= P.hi
 h4 : P.hi <= 40
structure FT where
 b : Int
 out : Bool
 f : Int
 l : Int
def wS (b : Bool) : Str := if b then "out" else "scaled"
abbrev wV (b : Bool) : V := .str (wS b)
abbrev FT.d (x : FT) : PyData := .tuple [.int x.b,.str (wS x.out),.int x.f,.int x.l]
structure SY where
 ex : List Int
 fs : List FT
def SY.d (S : SY) : PyData := .tuple [.tuple (S.ex.map .int),.tuple (S.fs.map FT.d)]
structure FT.ok (x : FT) (n h : Nat) : Prop where
 b0 : 0 <= x.b
 bn : x.b < n
 f0 : 0 <= x.f
 fl : x.f <= x.l
 lh : x.l < h
structure SY.ok (S : SY) (n : Nat) : Prop where
 x1 : 1 <= S.ex.length
 x8 : S.ex.length <= 8
 x : ∀ u ∈ S.ex,0 <= u /\ u <= 20
 f4 : S.fs.length <= 4
 f : ∀ x ∈ S.fs,x.ok n S.ex.length
def BE (ws : List Bool) (m : Int) : Int := if ws.any id then 0 else if ws.any (!·) then m / 2 else m
def BR (b h : Int) (x : FT) : Bool := x.b == b && decide (x.f <= h) && decide (h <= x.l)
def Bn (fs : List FT) (b h : Int) : List Bool := (fs.filter (BR b h)).map FT.out
def BN (bs : List (Int × Int)) (fs : List FT) (h : Int) : List Int := bs.zipIdx.map fun q => BE (Bn fs q.2 h) q.1.1
def caps (P : PL) (S : SY) : List (List Int) := (List.range S.ex.length).map fun (h : Nat) => BN P.bs S.fs (h : Int)
def drawn (q : Int × Int × Int) (h : Int) : Int := if h < q.2.1 \/ (h - q.2.1) % q.2.2 ≠ 0 then 0 else q.1
def draws (P : PL) (S : SY) : List Int := S.ex.zipIdx.map fun q => q.1 + (P.es.map fun e => drawn e q.2).sum
abbrev A3 (r : List Int) : PyData := .tuple (r.map .int)
def JR (P : PL) (S : SY) : PyData := .tuple ((caps P S).map A3)
def HI (P : PL) (S : SY) : PyData := A3 (draws P S)
def ret (H : Hp) (Q : VK) (p : Addr) (d : PyData) : Prop := ∀ v H',Ab H H' -> Aa p H' d v -> Q v H'
theorem Bm {l : List α} {x : α} (h : l[i]? = some x) : l.take (i + 1) = l.take i ++ [x] := by rw [List.take_add_one,h]; rfl
theorem HJ {bs : List (Int × Int)} {fs : List FT} {q : Int × Int} (hq : bs[i]? = some q) : (BN bs fs h)[i]? = some (BE (Bn fs i h) q.1) := by
 unfold BN; rw [List.getElem?_map,List.getElem?_zipIdx,hq]; simp
theorem HK {bs : List (Int × Int)} {fs : List FT} : (BN bs fs h).length = bs.length := by unfold BN; simp
theorem Fx {P : PL} {S : SY} (h : i < S.ex.length) : (caps P S)[i]? = some (BN P.bs S.fs i) := by
 unfold caps; rw [List.getElem?_map,List.getElem?_range h]; rfl
theorem DE {P : PL} {S : SY} : (caps P S).length = S.ex.length := by unfold caps; simp
theorem HL {P : PL} {S : SY} {u : Int} (hu : S.ex[i]? = some u) : (draws P S)[i]? = some (u + (P.es.map fun e => drawn e i).sum) := by
 unfold draws; rw [List.getElem?_map,List.getElem?_zipIdx,hu]; simp
theorem B6 {P : PL} {S : SY} : (draws P S).length = S.ex.length := by unfold draws; simp
theorem Fy : BP (.str "out") (ws.map wV) = ws.any id := by
 induction ws with
 | nil => rfl
 | cons b ws ih =>
  unfold BP at ih ⊢
  rw [List.map_cons,List.any_cons,ih,List.any_cons]
  cases b <;> rfl
theorem HM : BP (.str "scaled") (ws.map wV) = ws.any (!·) := by
 induction ws with
 | nil => rfl
 | cons b ws ih =>
  unfold BP at ih ⊢
  rw [List.map_cons,List.any_cons,ih,List.any_cons]
  cases b <;> rfl
theorem Fz : (ws.map wV).all CN = true := by
 rw [List.all_map,List.all_eq_true]
 intro b _
 rfl
theorem JS {fs : List FT} {x : FT} {b : Int} (hx : fs[i]? = some x) : Bn (fs.take (i + 1)) b h = if BR b h x then Bn (fs.take i) b h ++ [x.out] else Bn (fs.take i) b h := by
 unfold Bn
 rw [Bm hx,List.filter_append]
 by_cases c : BR b h x = true
 ·rw [if_pos c,List.filter_cons_of_pos c,List.map_append]; rfl
 ·rw [if_neg c,List.filter_cons_of_neg c,List.filter_nil,List.append_nil]
theorem Ad.mapGot {f : α -> PyData} {l : List α} {x : V} (r : Ad p H (l.map f) xs) (h : xs[i]? = some x) : ∃ a,l[i]? = some a /\ Aa p H (f a) x := by
 obtain ⟨d,hd,rd⟩ := r.got h
 rw [List.getElem?_map] at hd
 cases z : l[i]? with
 | none => rw [z] at hd; cases hd
 | some a => rw [z] at hd; cases hd; exact ⟨a,rfl,rd⟩
theorem Ad.ints : ∀ {ns : List Int} {xs : List V},Ad p H (ns.map .int) xs -> xs = ns.map V.int
 | [],xs,r => by unfold Ad at r; exact r
 | n :: ns,xs,r => by
  rw [List.map_cons] at r
  unfold Ad at r
  obtain ⟨x,t,rfl,rx,rt⟩ := r
  unfold Aa at rx
  rw [rx,Ad.ints rt]; rfl
theorem Ad.ofInts : ∀ {ns : List Int},Ad p H (ns.map .int) (ns.map V.int)
 | [] => .nil
 | n :: ns => .cons Aa.int Ad.ofInts
theorem Ad.snoc {ds : List PyData} {d : PyData} {x : V} (r : Ad p H ds xs) (h : Aa p H d x) : Ad p H (ds ++ [d]) (xs ++ [x]) := r.append (.cons h .nil)
theorem Aa.row {a : Addr} {r : List Int} (h : H a = some (.tup (r.map V.int))) : Aa p H (A3 r) (.ref a) := Aa.tup h Ad.ofInts
theorem Ab.own {H' : Hp} {b : Addr} {o : HO} (s : Ab H H') (n : H b = none) : Ab H (upd H' b o) := fun x u q => by rw [Ap (Bd q n)]; exact s x u q
theorem Ad.four {a b c d : PyData} (r : Ad p H [a,b,c,d] xs) : ∃ x y z w,xs = [x,y,z,w] /\ Aa p H a x /\ Aa p H b y /\ Aa p H c z /\ Aa p H d w := by
 unfold Ad at r; obtain ⟨x,s,rfl,hx,r⟩ := r; unfold Ad at r; obtain ⟨y,s,rfl,hy,r⟩ := r; unfold Ad at r; obtain ⟨z,s,rfl,hz,r⟩ := r; unfold Ad at r; obtain ⟨w,s,rfl,hw,r⟩ := r; unfold Ad at r; subst r; exact ⟨x,y,z,w,rfl,hx,hy,hz,hw⟩
theorem Nx {a b : V} (h : (!decide (a = b)) = true) : a ≠ b := by simpa using h
structure Small (n k : Nat) (d : PyData) : Prop where
 w : HF d <= n
 dp : d.depth <= k
 nd : d.hasDict = false
theorem Ny {ws : List Bool} {m : Int} (h0 : 0 <= m) (h9 : m <= 9) : 0 <= BE ws m /\ BE ws m <= m := by
 unfold BE
 split
 ·omega
 ·split
  ·omega
  ·omega
theorem FA {P : PL} {S : SY} (ok : P.ok) : ∀ r ∈ caps P S,(∀ i ∈ r,0 <= i /\ i <= 9) /\ r.length = P.bs.length := fun r hr => by
 unfold caps at hr
 obtain ⟨h,_,rfl⟩ := List.mem_map.mp hr
 refine ⟨fun i hi => ?_,HK⟩
 unfold BN at hi
 obtain ⟨q,hq,rfl⟩ := List.mem_map.mp hi
 obtain ⟨b1,b2,_⟩ := ok.b q.1 (List.fst_mem_of_mem_zipIdx hq)
 have := Ny (ws := Bn S.fs q.2 h) (m := q.1.1) (by omega) b2
 omega
theorem Nz {q : Int × Int × Int} (h1 : 1 <= q.1) (h9 : q.1 <= 9) : 0 <= drawn q h /\ drawn q h <= 9 := by
 unfold drawn
 split <;> omega
theorem JT {l : List Int} (h : ∀ i ∈ l,0 <= i /\ i <= 9) : 0 <= l.sum /\ l.sum <= 9 * l.length := by
 induction l with
 | nil => exact ⟨Int.le_refl _,Int.le_refl _⟩
 | cons a l ih =>
  have := h a List.mem_cons_self
  have := ih fun i hi => h i (List.mem_cons_of_mem _ hi)
  rw [List.sum_cons,List.length_cons]
  omega
theorem FB {P : PL} {S : SY} (ok : P.ok) {n : Nat} (so : S.ok n) : ∀ i ∈ draws P S,0 <= i /\ i <= 56 := fun i hi => by
 unfold draws at hi
 obtain ⟨q,hq,rfl⟩ := List.mem_map.mp hi
 have a := so.x q.1 (List.fst_mem_of_mem_zipIdx hq)
 have b := JT (l := P.es.map fun e => drawn e q.2) fun i hi => by
  obtain ⟨e,he,rfl⟩ := List.mem_map.mp hi
  obtain ⟨e1,e2,_⟩ := ok.e e he
  exact Nz e1 e2
 rw [List.length_map] at b
 have := ok.e4
 omega
theorem NA {l : List Int} (h : i < l.length) : l[i]? = some (l.getD i 0) := by rw [List.getD_eq_getElem?_getD,List.getElem?_eq_getElem h]; rfl
theorem NB {f e : Int} {n t : Nat} (he : 1 <= e) : t < CY f n e ↔ f + t * e < n := by
 unfold CY Builtin.Range.rangeSize
 rw [if_pos (by omega)]
 by_cases c : f < n
 ·rw [if_pos c]
  have h1 : 0 <= ((n : Int) - f - 1) / e := Int.ediv_nonneg (by omega) (by omega)
  have h2 : (t : Int) <= ((n : Int) - f - 1) / e ↔ (t : Int) * e <= (n : Int) - f - 1 := Int.le_ediv_iff_mul_le (by omega)
  constructor
  ·intro h
   have := h2.mp (by omega)
   omega
  ·intro h
   have := h2.mpr (by omega)
   omega
 ·rw [if_neg c]
  have h3 : 0 <= (t : Int) * e := Int.mul_nonneg (by omega) (by omega)
  constructor
  ·intro h; exact absurd h (Nat.not_lt_zero _)
  ·intro h; omega
theorem NC {m : Int} (c : ws.any id = false) : m / (1 + if ws.any (!·) = true then 1 else 0) = BE ws m := by
 unfold BE
 rw [c,if_neg (by decide : ¬ (false = true))]
 cases ws.any (!·) with
 | true => rfl
 | false => exact Int.ediv_one _
end MF
end
section
namespace L2
open PySem PySem.Spec PyProof.Rows
section
variable {X : Cx}
def ND : List V -> Hp -> VK -> Prop := fun xs H Q => ∃ (p : Addr) (ns : List Int),xs = [.ref p] /\ (H p = some (.lst (ns.map V.int)) \/ H p = some (.tup (ns.map V.int))) /\ Q (.int ns.sum) H
theorem FC (hc : X.calm = true) : Bu X (.builtin "sum") ND := by
 intro pins s σ H xs us Q I r h
 obtain ⟨p,ns,rfl,hp,q⟩ := h
 rcases hp with hp | hp
 ·exact Fw hc pins s σ H _ us Q I r ⟨p,ns,rfl,hp,q⟩
 obtain ⟨u,rfl,ru⟩ := r.one
 cases ru
 obtain ⟨its,rv,pl,hz⟩ := I.tuple (Af.of hp)
 have hi := HH rv
 obtain ⟨xs,hx⟩ := AllInts.items hi.allInts
 have e1 : ns = xs.toList.map (fun x => x.fst) := by rw [<- nums_intItems,<- hx,List.toList_toArray,hi.numsOf]
 have e2 : preSum (numAt xs) xs.size = ns.sum := by
  rw [preSum_eq,List.take_of_length_le (by simp),<- e1]
 have hl : s.heap.IsTuple p (intItems xs) := hx ▸ (show s.heap.IsTuple p its.toArray from pl)
 refine call_sum_walkG (wpAny_pyIter_tuple hl ?_)
 have hlt : p < s.heap.objs.size := by
  obtain ⟨o,ho,_⟩ := id hl
  exact Heap.lt_size ho
 refine ⟨s.heap.objs.size,_,_,_,_,_,numAt xs,rfl,Walks.tuple (A := X.A.in1) (I.ok.hd hc) s.heap.objs.size p (Nat.ne_of_lt hlt) (intItems xs),⟨⟨_,Heap.get?_push_size _ rfl,rfl,rfl⟩,?_⟩,fun b hb => ?_,fun i v hv => intItems_at hv,fun h' tk t' hk => ?_⟩
 ·obtain ⟨o,ho,ho2⟩ := id hl
  exact ⟨o,Heap.get?_push_of_some _ ho,ho2⟩
 ·have : b = s.heap.objs.size \/ b = p := by simpa using hb
  rw [show (s.heap.push _).objs.size = s.heap.objs.size + 1 from Array.size_push _]
  rcases this with rfl | rfl
  ·exact Nat.lt_succ_self _
  ·exact Nat.lt_succ_of_lt hlt
 ·have e3 : (intItems xs).size = xs.size := Array.size_map
  rw [e3,e2]
  refine ⟨.int ns.sum,H,I.kept fun b o eb => hk b o ?_ (Heap.get?_push_of_some _ eb),⟨t',rfl⟩,q⟩
  intro z
  have z' : b = s.heap.objs.size := by simpa using z
  exact absurd (Heap.lt_size eb) (by rw [z']; exact Nat.lt_irrefl _)
end
end L2
end
section
namespace MF
open PySem PySem.Spec PyProof.Rows L2
variable {P : PL} {S : SY} {F : List (List Int)} {i : Nat}
theorem _root_.L2.walk_zip {P : Program} {w : World} {K : PySem.W.Frag} {S1 S2 : Be P w K} {a b : Addr} {xs ys : List V} {cap : List (Option Nat)} {g : TG} {tt : TT} {te : TE} {σ : L2.St} {Q : List V -> Hp -> Prop} {H : Hp} (Pv : Nat -> List V -> Hp -> Prop) (hn : xs.length <= 100000) (he : xs.length = ys.length) (h0 : Pv 0 [] H) (hz : ∀ i zs H,Pv i zs H -> zs.length <= i)
  (hl : ∀ i zs H,Pv i zs H -> S1.Sq H a xs /\ S2.Sq H b ys)
  (hs : ∀ i x y zs H T,xs[i]? = some x -> ys[i]? = some y -> Pv i zs H -> H T = none -> g (.ref T) (AJ cap σ) (upd H T (.tup [x,y])) fun σ2 H2 => Keep (AJ cap σ) σ2 /\ tt σ2 H2 fun b H3 => br b (te σ2 H3 fun y H4 => Pv (i + 1) (zs ++ [y]) H4) (Pv (i + 1) zs H3))
  (hd : ∀ zs H,Pv xs.length zs H -> Q zs H) : DA (DB S1 S2 a b) cap g tt te σ Q H :=
 DV xs.length Pv hn h0 hz (fun i zs H hi p => by
  obtain ⟨q1,q2⟩ := hl i zs H p
  have hy : i < ys.length := by omega
  refine ⟨⟨xs,ys,xs[i],ys[i],q1,q2,by simp [hi],by simp [hy]⟩,fun v H' ⟨T,e,n,y⟩ => ?_⟩
  subst e
  rw [y xs ys xs[i] ys[i] q1 q2 (by simp [hi]) (by simp [hy])]
  exact hs i xs[i] ys[i] zs H T (by simp [hi]) (by simp [hy]) p n)
  fun zs H p => ⟨⟨xs,ys,(hl _ zs H p).1,(hl _ zs H p).2,rfl⟩,hd zs H p⟩
theorem Ab.evOwn {H H2 H' : Hp} {R : Addr} (s : Ab H H2) (n : H R = none) (e : Ev R H2 H') : Ab H H' := fun b o q => (e b o (s b o q)).elim (fun ⟨z,_⟩ => by rw [z,n] at q; cases q) id
def FD (F : List (List Int)) : PyData := .tuple (F.map A3)
structure NE (P : PL) (S : SY) (F : List (List Int)) : Prop where
 len : F.length = S.ex.length
 row : ∀ (i : Nat) (r : List Int),F[i]? = some r -> r.length = P.bs.length
 bd : ∀ (i : Nat) (r : List Int) (j : Nat) (x c : Int),F[i]? = some r -> r[j]? = some x -> (BN P.bs S.fs i)[j]? = some c -> 0 <= x /\ x <= c
structure Tri (p : Addr) (H : Hp) (P : PL) (S : SY) (F : List (List Int)) (v u w : V) : Prop where
 ok : P.ok
 so : S.ok P.bs.length
 fo : NE P S F
 r : Aa p H P.d v
 ru : Aa p H S.d u
 rw : Aa p H (FD F) w
def made (F : List (List Int)) (i : Nat) : Int := (F.getD i []).sum
def CC (P : PL) (S : SY) (i : Nat) : Int := (draws P S).getD i 0
def CZ (hi m : Int) : Int := if 0 > m - hi then 0 else m - hi
def Bf (P : PL) (S : SY) (F : List (List Int)) : Nat -> Int
 | 0 => P.st
 | i + 1 => Bf P S F i + (made F i - CC P S i) - CZ P.hi (Bf P S F i + (made F i - CC P S i))
def Bo (P : PL) (S : SY) (F : List (List Int)) (i : Nat) : Int := Bf P S F i + (made F i - CC P S i)
theorem DF : Bf P S F (i + 1) = Bo P S F i - CZ P.hi (Bo P S F i) := rfl
structure NF (P : PL) (S : SY) (F : List (List Int)) (k : Nat) (s : Option (Int × Int)) : Prop where
 le : k <= S.ex.length
 up : ∀ i,i < k -> P.lo <= Bo P S F i
 fin : (s = none /\ k = S.ex.length) \/ (k < S.ex.length /\ Bo P S F k < P.lo /\ s = some ((k : Int),P.lo - Bo P S F k))
theorem EI {r : List Int} (h : F[i]? = some r) : made F i = r.sum := by unfold made; rw [List.getD_eq_getElem?_getD,h]; rfl
theorem EJ {d : Int} (h : (draws P S)[i]? = some d) : CC P S i = d := by unfold CC; rw [List.getD_eq_getElem?_getD,h]; rfl
end MF
end
section
namespace MF
open PySem PySem.Spec PyProof.Rows L2
end MF
end
section
namespace L2
open PySem PySem.Spec PyProof.Rows
theorem NG (l : Addr) (items : Array Value) (n : Nat) (dd : Option Addr) (sl : Array (Option Value)) (u : Tok) :
  Meets (Builtin.«tuple.__mul__» ⟨[.ref l,.int 1 u],[]⟩) (fun _ R s => s.heap.get? l = some { cls := .type "tuple",dict := dd,data := .seq items n,slots := sl } /\ R (.ok (.ret (Value.ref l))) s) :=
 .of_wp fun prog w A R s h => by
  obtain ⟨hp,g,d,tk,os⟩ := s; obtain ⟨hl,h⟩ := h; have f1 := AutoSeq1.idx_int; have f2 := AutoSeq1.sub_tuple_tuple
  have ht : IsTup hp l items := ⟨_,hl,rfl,n,rfl⟩
  wp_walk using wpAny_loadPart' hl
  exact ⟨_,rfl,h⟩
section
variable {X : Cx}
def NH : R2 := fun x y H Q => ∃ a k xs,x = .ref a /\ y = .int k /\ H a = some (.tup xs) /\ xs ≠ [] /\ 1 <= k /\ k <= 100 /\ xs.length <= 100 /\ DZ H (List.replicate k.toNat xs).flatten Q
theorem NI : OpR X (binaryOp .Mult) NH := by
 intro pins s σ H x y v u Q I rx ry h
 obtain ⟨a,k,xs,rfl,rfl,ha,hx,h1,h2,h3,q⟩ := h
 by_cases hk : k = 1
 ·subst hk
  cases rx
  obtain ⟨t,rfl⟩ := ry
  obtain ⟨its,r,ht,hz⟩ := I.tuple (Af.of ha)
  obtain ⟨⟨cls,dd,data,sl⟩,ho,hc,n,hd⟩ := id ht; simp only at hc hd; subst hc hd
  refine wpAny_binaryOp_repeat_ref (T := "tuple") (U := "int") (by decide) ⟨_,ho,rfl⟩ (fun s' => typeIs_int s' 1 t) JJ F.fills_int_mul F.slot_int_rmul JK F.slot_int_index.lookup
   (call_meets F.slot_int_rmul (typeIs_int s 1 t) F.entry_int_rmul (F.args_int_rmul_2 _ _) (JL 1 t a its.toArray n dd sl) ⟨ho,rfl,⟨_,ho,rfl⟩,?_⟩)
  refine call_meets F.slot_tuple_mul ⟨_,ho,rfl⟩ F.entry_tuple_mul (F.args_tuple_mul_2 _ _) (NG a its.toArray n dd sl t) ⟨ho,?_⟩
  refine ⟨.ref a,H,I,rfl,q a H (Ab.refl _) ?_⟩
  rw [ha]
  simp
 ·exact HE pins s σ H _ _ v u Q I rx ry ⟨a,k,xs,rfl,rfl,ha,hx,by omega,h2,h3,q⟩
end
end L2
end
section
namespace L2
open PySem PySem.Spec PyProof.Rows
variable {sc : Scope}
section
variable {X : Cx}
def FE (sc : Scope) (x : Str) : Bool := match sc.names.lookup x with | some .local => true | some .cell => true | some .free => true | _ => false
def FF (sc : Scope) (x : Str) : Bool := match sc.names.lookup x with | some .local => true | some .cell => true | _ => false
def FG (sc : Scope) (x : Str) : Bool := match sc.names.lookup x with | some .local => true | _ => false
theorem NJ {x : Str} (h : FE sc x = true) : Eu sc x := by
 unfold FE at h
 split at h
 ·exact .inl (by assumption)
 ·exact .inr (.inl (by assumption))
 ·exact .inr (.inr (by assumption))
 ·cases h
theorem Ay {x : Str} (h : FF sc x = true) : Dq sc x := by
 unfold FF at h
 split at h
 ·exact .inl (by assumption)
 ·exact .inr (by assumption)
 ·cases h
theorem Az {f : Bool} {x : Str} (h : (f || FG sc x) = true) : f = true \/ sc.names.lookup x = some .local := by
 rcases Bool.or_eq_true_iff.mp h with h | h
 ·exact .inl h
 ·unfold FG at h
  split at h
  ·exact .inr (by assumption)
  ·cases h
theorem cw (i : Nat) {x : Str} {pos : Pos} (hN : X.N[i]? = some x) (hv : FE X.env.scope x = true) (hd : (x == ("__debug__" : Str) || x == ("__classdict__" : Str)) = false) : PE X (.Name x pos) (DX i) :=
 cv i hN (NJ hv) (Bool.or_eq_false_iff.mp hd).1 (Bool.or_eq_false_iff.mp hd).2
theorem NK {x : Str} {pos : Pos} (i : Nat) (hN : X.N.Nodup) (hi : X.N[i]? = some x) (hx : FF X.env.scope x = true) (hf : (X.fn x || FG X.env.scope x) = true) : PG X (.Name x pos) (E4 i) := Lp hN hi (Ay hx) (Az hf)
def NL (X : Cx) (i : Nat) (x : Str) : Bool := X.N[i]? == some x && (FE X.env.scope x && !(x == ("__debug__" : Str) || x == ("__classdict__" : Str)))
theorem cx (i : Nat) {x : Str} {pos : Pos} (h : NL X i x = true) : PE X (.Name x pos) (DX i) := by
 obtain ⟨h1,h2⟩ := Bool.and_eq_true_iff.mp h
 obtain ⟨h2,h3⟩ := Bool.and_eq_true_iff.mp h2
 exact cw i (eq_of_beq h1) h2 (by simpa using h3)
def NM (X : Cx) (i : Nat) (x : Str) : Bool := X.N[i]? == some x && (FF X.env.scope x && (X.fn x || FG X.env.scope x))
theorem Ag {x : Str} {pos : Pos} (i : Nat) (hN : X.N.Nodup) (h : NM X i x = true) : PG X (.Name x pos) (E4 i) := by
 obtain ⟨h1,h2⟩ := Bool.and_eq_true_iff.mp h
 obtain ⟨h2,h3⟩ := Bool.and_eq_true_iff.mp h2
 exact NK i hN (eq_of_beq h1) h2 h3
theorem AS {l : List Str} (h : decide l.Nodup = true) : l.Nodup := of_decide_eq_true h
def nS : Expr -> Bool | .Starred _ _ => false | _ => true
theorem FH {e : Expr} {es : List Expr} {env : Env} (h : nS e = true) : starEach (e :: es) env = (false,eval e env) :: starEach es env := by
 cases e <;> first | rfl | exact absurd h Bool.false_ne_true
section
variable {e1 e2 e3 e4 : Expr} {t1 t2 t3 t4 : TE}
theorem Ak (h1 : PE X e1 t1) (hs : nS e1 = true) : PA X [e1] (B4 t1 Dt) := Bg h1 BJ (FH hs)
theorem Al (h1 : PE X e1 t1) (h2 : PE X e2 t2) (hs : (nS e1 && nS e2) = true) : PA X [e1,e2] (B4 t1 (B4 t2 Dt)) := Bg h1 (Ak h2 (Bool.and_eq_true_iff.mp hs).2) (FH (Bool.and_eq_true_iff.mp hs).1)
theorem AA (h1 : PE X e1 t1) (h2 : PE X e2 t2) (h3 : PE X e3 t3) (hs : (nS e1 && (nS e2 && nS e3)) = true) : PA X [e1,e2,e3] (B4 t1 (B4 t2 (B4 t3 Dt))) := Bg h1 (Al h2 h3 (Bool.and_eq_true_iff.mp hs).2) (FH (Bool.and_eq_true_iff.mp hs).1)
theorem A4 (h1 : PE X e1 t1) (h2 : PE X e2 t2) (h3 : PE X e3 t3) (h4 : PE X e4 t4) (hs : (nS e1 && (nS e2 && (nS e3 && nS e4))) = true) : PA X [e1,e2,e3,e4] (B4 t1 (B4 t2 (B4 t3 (B4 t4 Dt)))) := Bg h1 (AA h2 h3 h4 (Bool.and_eq_true_iff.mp hs).2) (FH (Bool.and_eq_true_iff.mp hs).1)
end
end
end L2
end
section
namespace L2
open PySem PySem.Spec PyProof.Rows
section
variable {X : Cx}
end
end L2
namespace MF
open PySem PySem.Spec PyProof.Rows L2
end MF
end
section
namespace L2
open PySem PySem.Spec PyProof.Rows
abbrev De (elt tg1 it1 : Expr) (ifs1 : List Expr) (tg2 it2 : Expr) (ifs2 : List Expr) (scope : Scope) (pos : Pos) : Expr := .ListComp elt [⟨tg1,it1,ifs1,0⟩,⟨tg2,it2,ifs2,0⟩] scope pos
section
variable {prog : Program} {w : World} {A : Around} {R : Result -> Shared -> Prop} {s : Shared} {elt tg1 it1 tg2 it2 : Expr} {ifs1 ifs2 : List Expr} {scope : Scope} {pos : Pos} {it acc : Value} {env : Env}
theorem NN (h0 : codeAny (model prog w) A (.compLoop (De elt tg1 it1 ifs1 tg2 it2 ifs2 scope pos) 1 it acc env) R s)
  (h : wpAny (model prog w) A (pyIter it) (fun it' s' => codeAny (model prog w) A (.compLoop (De elt tg1 it1 ifs1 tg2 it2 ifs2 scope pos) 1 it' acc env) R s') (notedBy (model prog w) A env fun x s' => R (.error x) s') s) :
  codeAny (model prog w) A (.compStart (De elt tg1 it1 ifs1 tg2 it2 ifs2 scope pos) 1 it acc env) R s := by
 refine codeAny_of_tree (id (wpAny_notedAt (id (id (wpAny_bind (wpAny_askSetting (wpAny_ite ?_)))))))
 split
 ·exact wpAny_bind (wpAny_pure (wpAny_pure ⟨rfl,h0⟩))
 ·exact wpAny_bind (wpAny_rule (wpAny_bind (wpAny_standAt (wpAny_bind (wpAny_mono h (fun it' s' h' => wpAny_pure ⟨rfl,h'⟩) fun _ _ z => z)))))
end
def FI (wi2 : TI) (g2 : TG) (tt2 : TT) (te : TE) : St -> List V -> Hp -> (List V -> Hp -> Prop) -> Prop := fun σ ys H N => wi2 σ H fun J H1 =>
 ∃ W : Nat -> Nat -> List V -> Hp -> Prop,(∃ m,W 0 m ys H1) /\ ∀ j m zs H,W j m zs H ->
  (J.stop j H /\ N zs H) \/
  (J.go j H /\ zs.length < sizeLine /\ ∃ N2 : List V -> Hp -> Prop, (∀ zs' H', N2 zs' H' -> ∃ m', m' < m /\ W (j + 1) m' zs' H') /\ ∀ x H', J.yld j H x H' -> g2 x σ H' fun σ3 H2 => Keep σ σ3 /\ tt2 σ3 H2 fun b H3 =>
   br b (te σ3 H3 fun y H4 => N2 (zs ++ [y]) H4) (N2 zs H3))
def JU (wi : TI) (cap : List (Option Nat)) (g : TG) (tt : TT) (wi2 : TI) (g2 : TG) (tt2 : TT) (te : TE) : St -> Hp -> (List V -> Hp -> Prop) -> Prop := fun σ H Q => wi σ H fun J H1 =>
 ∃ W : Nat -> Nat -> List V -> Hp -> Prop,(∃ m,W 0 m [] H1) /\ ∀ i m ys H,W i m ys H ->
  (J.stop i H /\ Q ys H) \/
  (J.go i H /\ ∃ N : List V -> Hp -> Prop, (∀ ys' H', N ys' H' -> ∃ m', m' < m /\ W (i + 1) m' ys' H') /\ ∀ x H', J.yld i H x H' -> g x (AJ cap σ) H' fun σ2 H2 => Keep (AJ cap σ) σ2 /\ tt σ2 H2 fun b H3 =>
   br b (FI wi2 g2 tt2 te σ2 ys H3 N) (N ys H3))
theorem NO {X : Cx} {tg iter tg2 iter2 elt : Expr} {ifs ifs2 : List Expr} {scope : Scope} {pos pos' : Pos} {wi wi2 : TI} {g g2 : TG} {tt tt2 : TT} {te : TE} {N' : List Str} {cap : List (Option Nat)} {use : Option (Value -> Sem Unit)} {Q' : Value -> Shared -> Prop}
  {pins : List (Addr × Obj)} {s : Shared} {σ : St} {H : Hp} {Q : List V -> Hp -> Prop}
  (hc : X.calm = true) (hi : PI X tg iter wi) (B : AM X.env.scope X.N scope N' cap) (hg : ∀ s H ex C,PG (AL X N' scope s H ex C) tg g) (ht : ∀ s H ex C,BQ (AL X N' scope s H ex C) ifs tt)
  (hi2 : ∀ s H ex C,PI (AL X N' scope s H ex C) tg2 iter2 wi2) (hg2 : ∀ s H ex C,PG (AL X N' scope s H ex C) tg2 g2) (ht2 : ∀ s H ex C,BQ (AL X N' scope s H ex C) ifs2 tt2) (he : ∀ s H ex C,PE (AL X N' scope s H ex C) elt te)
  (hs : ∀ x,foldedSetIterable iter X.env x = pure x) (hs2 : ∀ env x,foldedSetIterable iter2 env x = pure x) (I : Ac X pins σ H s) (h : JU wi cap g tt wi2 g2 tt2 te σ H Q)
  (fin : ∀ (acc C : Addr) (H : Hp) (ys : List V) (s' : Shared),H acc = none -> Ac X pins σ (upd H acc (.lst ys)) s' -> Fi X pins C (upd H acc (.lst ys)) s' -> Q ys H -> compPost (model X.prog X.w) X.A X.xe use Q' (.ref acc) C (.ok .next) s') :
  wpAny (model X.prog X.w) X.A (comprehension (De elt tg iter ifs tg2 iter2 ifs2 scope pos) scope X.env pos' (newList []) false (eval iter X.env) use) Q' X.xe s :=
 Jt MH (body := fun itv acc env => Hs (De elt tg iter ifs tg2 iter2 ifs2 scope pos) 0 iter2 itv acc env) (Bt := Js Jp wi2 g2 tt2 (Ht te)) (Cd := fun _ => True) hc hi B hg ht (fun _ _ _ => rfl)
  (fun s H ex C a A => MI (body := fun itv => Fj (De elt tg iter ifs tg2 iter2 ifs2 scope pos) 1 elt itv (.ref a) _) A rfl (hs2 _) (fun _ => rfl) NN (hi2 s H ex C) (hg2 s H ex C) (ht2 s H ex C) (Jr A rfl (he s H ex C)) fun _ _ z => z) (fun _ _ z => ⟨trivial,z⟩) hs I h fin
end L2
end
section
namespace L2
open PySem PySem.Spec PyProof.Rows
section
variable {X : Cx}
end
def NP (J : It) (g2 : TG) (tt2 : TT) (te : TE) (σ : St) (ys : List V) (N : List V -> Hp -> Prop) (H1 : Hp) : Prop :=
 ∃ W : Nat -> Nat -> List V -> Hp -> Prop,(∃ m,W 0 m ys H1) /\ ∀ j m zs H,W j m zs H ->
  (J.stop j H /\ N zs H) \/
  (J.go j H /\ zs.length < sizeLine /\ ∃ N2 : List V -> Hp -> Prop, (∀ zs' H', N2 zs' H' -> ∃ m', m' < m /\ W (j + 1) m' zs' H') /\ ∀ x H', J.yld j H x H' -> g2 x σ H' fun σ3 H2 => Keep σ σ3 /\ tt2 σ3 H2 fun b H3 =>
   br b (te σ3 H3 fun y H4 => N2 (zs ++ [y]) H4) (N2 zs H3))
def NQ (J : It) (cap : List (Option Nat)) (g : TG) (tt : TT) (wi2 : TI) (g2 : TG) (tt2 : TT) (te : TE) (σ : St) (Q : List V -> Hp -> Prop) (H1 : Hp) : Prop :=
 ∃ W : Nat -> Nat -> List V -> Hp -> Prop,(∃ m,W 0 m [] H1) /\ ∀ i m ys H,W i m ys H ->
  (J.stop i H /\ Q ys H) \/
  (J.go i H /\ ∃ N : List V -> Hp -> Prop, (∀ ys' H', N ys' H' -> ∃ m', m' < m /\ W (i + 1) m' ys' H') /\ ∀ x H', J.yld i H x H' -> g x (AJ cap σ) H' fun σ2 H2 => Keep (AJ cap σ) σ2 /\ tt σ2 H2 fun b H3 =>
   br b (FI wi2 g2 tt2 te σ2 ys H3 N) (N ys H3))
end L2
namespace MF
open PySem PySem.Spec PyProof.Rows L2
def NR (P : PL) (F : List (List Int)) : List Int := (List.range P.bs.length).map fun b => (F.map fun r => r.getD b 0).sum
def coal (P : PL) (F : List (List Int)) : Int := (((NR P F).zip P.bs).map fun q => q.1 * q.2.2).sum
end MF
end
section
namespace MF
open PySem PySem.Spec PyProof.Rows L2
abbrev Lt (d : PyData) : List Nat := d.shown.cps.toList
def tail (c : Nat) : List PyData -> List Nat
 | [] => [c]
 | d :: ds => 44 :: 32 :: (Lt d ++ tail c ds)
end MF
end
section
namespace L2
open PySem PySem.Spec PyProof.Rows
theorem JV {P : Program} {w : World} {K : PySem.W.Frag} {S1 S2 : Be P w K} {a b : Addr} {xs ys : List V} {g : TG} {tb : TS} {D : CS} {σ : St} {H : Hp} (Pv : Nat -> St -> Hp -> Prop) (he : xs.length = ys.length) (h0 : Pv 0 σ H) (hl : ∀ i σ H,Pv i σ H -> S1.Sq H a xs /\ S2.Sq H b ys)
  (hs : ∀ i x y σ H T,xs[i]? = some x -> ys[i]? = some y -> Pv i σ H -> H T = none -> g (.ref T) σ (upd H T (.tup [x,y])) fun σ2 H2 => tb { D with nx := Pv (i + 1),ct := Pv (i + 1),bk := D.nx } σ2 H2) (hd : ∀ σ H,Pv xs.length σ H -> D.nx σ H) :
  ∃ W : Nat -> Nat -> St -> Hp -> Prop,(∃ m,W 0 m σ H) /\ ∀ i m σ H,W i m σ H ->
   ((DB S1 S2 a b).stop i H /\ D.nx σ H) \/ ((DB S1 S2 a b).go i H /\ ∃ N : St -> Hp -> Prop,(∀ σ' H',N σ' H' -> ∃ m',m' < m /\ W (i + 1) m' σ' H') /\ ∀ x H',(DB S1 S2 a b).yld i H x H' -> g x σ H' fun σ2 H2 => tb { D with nx := N,ct := N,bk := D.nx } σ2 H2) := by
 refine ⟨fun i m σ H => m = xs.length - i /\ i <= xs.length /\ Pv i σ H,⟨xs.length,by simp,Nat.zero_le _,h0⟩,?_⟩
 rintro i m σ H ⟨rfl,hi,p⟩
 obtain ⟨q1,q2⟩ := hl i σ H p
 by_cases hlt : i < xs.length
 ·have hy : i < ys.length := by omega
  refine .inr ⟨⟨xs,ys,xs[i],ys[i],q1,q2,by simp [hlt],by simp [hy]⟩,Pv (i + 1),fun σ' H' p' => ⟨xs.length - (i + 1),by omega,rfl,hlt,p'⟩,fun v H' ⟨T,e,n,y⟩ => ?_⟩
  subst e
  rw [y xs ys xs[i] ys[i] q1 q2 (by simp [hlt]) (by simp [hy])]
  exact hs i xs[i] ys[i] σ H T (by simp [hlt]) (by simp [hy]) p n
 ·obtain rfl : i = xs.length := by omega
  exact .inl ⟨⟨xs,ys,q1,q2,rfl⟩,hd σ H p⟩
section
variable {X : Cx}
end
end L2
namespace MF
open PySem PySem.Spec PyProof.Rows L2
end MF
namespace L2
open PySem PySem.Spec PyProof.Rows
section
variable {X : Cx}
end
end L2
end
section
namespace L2
open PySem PySem.Spec PyProof.Rows
variable {n : Nat} {g g2 : TG} {tt tt2 : TT} {te : TE} {σ : St} {Q : List V -> Hp -> Prop} {H : Hp} {wi2 : TI}
theorem NS {lo : Int} {ys : List V} (Pv : Nat -> List V -> Hp -> Prop) (h0 : Pv 0 ys H) (hz : ∀ i zs H,Pv i zs H -> zs.length < 100000)
  (hs : ∀ i zs H,i < n -> Pv i zs H -> g (.int (lo + i)) σ H fun σ2 H2 => Keep σ σ2 /\ tt σ2 H2 fun b H3 => br b (te σ2 H3 fun y H4 => Pv (i + 1) (zs ++ [y]) H4) (Pv (i + 1) zs H3))
  (hd : ∀ zs H,Pv n zs H -> Q zs H) : NP (CK lo n) g tt te σ ys Q H := by
 refine ⟨fun i m zs H => m = n - i /\ i <= n /\ Pv i zs H,⟨n,by simp,Nat.zero_le _,h0⟩,?_⟩
 rintro i m zs H ⟨rfl,hi,p⟩
 by_cases hlt : i < n
 ·refine .inr ⟨hlt,Nat.lt_trans (hz i zs H p) (by decide),Pv (i + 1),fun zs' H' p' => ⟨n - (i + 1),by omega,rfl,hlt,p'⟩,fun v H' ⟨e,y⟩ => ?_⟩
  subst e y
  exact hs i zs _ hlt p
 ·obtain rfl : i = n := by omega
  exact .inl ⟨Nat.le_refl _,hd zs H p⟩
theorem NT {lo : Int} {cap : List (Option Nat)} (Pv : Nat -> List V -> Hp -> Prop) (h0 : Pv 0 [] H)
  (hs : ∀ i zs H,i < n -> Pv i zs H -> g (.int (lo + i)) (AJ cap σ) H fun σ2 H2 => Keep (AJ cap σ) σ2 /\ tt σ2 H2 fun b H3 => br b (FI wi2 g2 tt2 te σ2 zs H3 (Pv (i + 1))) (Pv (i + 1) zs H3))
  (hd : ∀ zs H,Pv n zs H -> Q zs H) : NQ (CK lo n) cap g tt wi2 g2 tt2 te σ Q H := by
 refine ⟨fun i m zs H => m = n - i /\ i <= n /\ Pv i zs H,⟨n,by simp,Nat.zero_le _,h0⟩,?_⟩
 rintro i m zs H ⟨rfl,hi,p⟩
 by_cases hlt : i < n
 ·refine .inr ⟨hlt,Pv (i + 1),fun zs' H' p' => ⟨n - (i + 1),by omega,rfl,hlt,p'⟩,fun v H' ⟨e,y⟩ => ?_⟩
  subst e y
  exact hs i zs _ hlt p
 ·obtain rfl : i = n := by omega
  exact .inl ⟨Nat.le_refl _,hd zs H p⟩
def NU (i : Nat) (wi : TI) (cap : List (Option Nat)) (g : TG) (tt : TT) (wi2 : TI) (g2 : TG) (tt2 : TT) (te : TE) : TS := fun D σ H => JU wi cap g tt wi2 g2 tt2 te σ H fun ys H' => ∀ p,H' p = none -> D.nx (σ.set i (some (.ref p))) (upd H' p (.lst ys))
theorem NV {X : Cx} {i : Nat} {y : Str} {tg iter tg2 iter2 elt : Expr} {ifs ifs2 : List Expr} {scope : Scope} {pos pos' pos'' : Pos} {wi : TI} (N' : List Str) (cap : List (Option Nat)) (hN : X.N.Nodup) (hin : X.N[i]? = some y) (hy : Dq X.env.scope y)
  (hc : X.calm = true) (hi : PI X tg iter wi) (B : AM X.env.scope X.N scope N' cap) (hg : ∀ s H ex C,PG (AL X N' scope s H ex C) tg g) (ht : ∀ s H ex C,BQ (AL X N' scope s H ex C) ifs tt)
  (hi2 : ∀ s H ex C,PI (AL X N' scope s H ex C) tg2 iter2 wi2) (hg2 : ∀ s H ex C,PG (AL X N' scope s H ex C) tg2 g2) (ht2 : ∀ s H ex C,BQ (AL X N' scope s H ex C) ifs2 tt2) (he : ∀ s H ex C,PE (AL X N' scope s H ex C) elt te)
  (hsw : swapsWith (De elt tg iter ifs tg2 iter2 ifs2 scope pos) (some (.Name y pos')) pos''.line X.env = pure true := by rfl)
  (hf : X.fn y = true \/ X.env.scope.names.lookup y = some .local := by first | exact .inl rfl | exact .inr rfl | assumption)
  (hs : ∀ x,foldedSetIterable iter X.env x = pure x := by intro _; rfl) (hs2 : ∀ env x,foldedSetIterable iter2 env x = pure x := by intro _ _; rfl) : PS X (.Assign [.Name y pos'] (.ListComp elt [⟨tg,iter,ifs,0⟩,⟨tg2,iter2,ifs2,0⟩] scope pos) pos'') (NU i wi cap g tt wi2 g2 tt2 te) := by
 intro pins s σ H D I h
 rw [exec_Assign_Name_used _ _ _ _ hsw]
 refine wpAny_bind (wpAny_standAt (wpAny_bind ?_))
 show wpAny _ X.A (do let _ <- comprehension (De elt tg iter ifs tg2 iter2 ifs2 scope pos) scope X.env _ (newList []) false (eval iter X.env) (some (assign (.Name y pos') X.env))) _ _ s
 refine wpAny_bind (wpAny_mono (NO (use := some (assign (.Name y pos') X.env)) (Q' := fun _ s' => SP X pins D .next s') hc hi B hg ht hi2 hg2 ht2 he hs hs2 I h fun acc C H ys s' hn I' L q => ?_) (fun _ s' hq => wpAny_pure (wpAny_pure hq)) fun _ _ e => e)
 obtain ⟨m,hm⟩ := L.ns
 refine wpAny_assign_Name (GJ I' hN hin hy (show Aw (.ref acc) (.ref acc) from rfl) (fun s'' I'' ⟨a,sb,ha⟩ => ?_) hf)
 have hCa : C ≠ a := by
  rcases ha with e | e
  ·rw [e]; exact L.loc
  ·exact fun z => L.cell _ _ e z.symm
 refine ⟨m,hm.sameBut sb hCa,fun h' hsb => ?_⟩
 exact ⟨_,_,I''.turned (t' := s''.toks) (it := C) (fun b o hb e => hsb.extBut b o hb e) L.free L.loc (.inr L.sz) L.cell L.pin,q acc hn⟩
def NW (te : TE) : TT := fun σ H Q => te σ H fun x H' => ∃ a xs,x = .ref a /\ H' a = some (.lst xs) /\ Q (!xs.isEmpty) H'
theorem NX {X : Cx} {a : Expr} {ta : TE} (ha : PE X a ta) (he : ∀ whole,isTrue a X.env whole = (do let v <- whole; standAt a.pos; holding [v] (truthy v)) := by intro _; rfl) : PT X a (NW ta) := by
 intro pins s σ H Q I h
 refine isTrue_plain (Ar (ha pins s σ H _ I h) fun v s1 ⟨x,H1,I1,r1,q1⟩ => ?_) (he _)
 obtain ⟨b,xs,rfl,hb,q⟩ := q1
 cases r1
 obtain ⟨its,r,pl,hz⟩ := I1.list (Am.of hb)
 have hlen := r.length
 have big : sizeLine < 2 ^ 63 := by decide
 exact wpAny_truthy_list pl.isList (by simp only [List.size_toArray]; omega) ⟨H1,I1.tok _,by rw [LS r]; exact q⟩
section
variable {X : Cx}
end
end L2
namespace MF
open PySem PySem.Spec PyProof.Rows L2
variable {n k : Nat} {α : Type} {xs : List α}
structure TM where
 cs : List (List Int)
 co : List Int
 ds : List Int
 lo : Int
 hi : Int
 st : Int
def TM.d (T : TM) : PyData := .tuple [FD T.cs,A3 T.co,A3 T.ds,.tuple [.int T.lo,.int T.hi,.int T.st]]
def terms (P : PL) (S : SY) : TM := ⟨caps P S,P.bs.map (·.2),draws P S,P.lo,P.hi,P.st⟩
structure TM.ok (T : TM) : Prop where
 l8 : T.ds.length <= 8
 lc : T.cs.length = T.ds.length
theorem JW {P : PL} {S : SY} (so : S.ok n) : (terms P S).ok := ⟨by show (draws P S).length <= 8; rw [B6]; exact so.x8,by show (caps P S).length = (draws P S).length; rw [DE,B6]⟩
def part {α : Type} (xs : List α) (f l : Nat) : List α := (xs.drop f).take (l + 1 - f)
theorem JX {f l : Nat} (h : f <= l) (hl : l < xs.length) : (part xs f l).length = l + 1 - f := by
 unfold part; rw [List.length_take,List.length_drop]; omega
theorem FJ {xs : List V} {f l : Nat} (h : f <= l) (hl : l < xs.length) : Bh xs (some (f : Int)) (some ((l : Int) + 1)) = part xs f l := by
 have e : ((l : Int) + 1) = ((l + 1 : Nat) : Int) := by omega
 unfold Bh part
 rw [e,HT.sIx_nat,HT.sIx_nat,Nat.min_eq_left (by omega),Nat.min_eq_left (by omega)]
theorem D0 {β : Type} {g : α -> β} {f l : Nat} : part (xs.map g) f l = (part xs f l).map g := by
 unfold part; rw [<- List.map_drop,<- List.map_take]
theorem Ad.part {p : Addr} {H : Hp} : ∀ {ds : List PyData} {xs : List V},Ad p H ds xs -> ∀ f l,Ad p H (MF.part ds f l) (MF.part xs f l) := by
 have dr : ∀ {ds : List PyData} {xs : List V},Ad p H ds xs -> ∀ f,Ad p H (ds.drop f) (xs.drop f) := by
  intro ds
  induction ds with
  | nil => intro xs r f; unfold Ad at r; subst r; rw [List.drop_nil,List.drop_nil]; exact .nil
  | cons d ds ih =>
   intro xs r f
   have r' := r
   unfold Ad at r
   obtain ⟨x,t,rfl,rx,rt⟩ := r
   cases f with
   | zero => exact r'
   | succ f => exact ih rt f
 have tk : ∀ {ds : List PyData} {xs : List V},Ad p H ds xs -> ∀ f,Ad p H (ds.take f) (xs.take f) := by
  intro ds
  induction ds with
  | nil => intro xs r f; unfold Ad at r; subst r; rw [List.take_nil,List.take_nil]; exact .nil
  | cons d ds ih =>
   intro xs r f
   unfold Ad at r
   obtain ⟨x,t,rfl,rx,rt⟩ := r
   cases f with
   | zero => exact .nil
   | succ f => exact .cons rx (ih rt f)
 intro ds xs r f l
 exact tk (dr r f) _
def most (T : TM) (f l : Nat) : Int := ((part T.cs f l).map List.sum).sum
def FK (T : TM) (f l : Nat) : Int := (part T.ds f l).sum
def BW (T : TM) (f l : Nat) : Bool := decide ((if f = 0 then T.st else T.hi) + most T f l < FK T f l + T.lo)
def CD (f k : Nat) : List (Nat × Nat) := (List.range k).map fun i => (f,f + i)
def BX (n k : Nat) : List (Nat × Nat) := ((List.range k).map fun f => CD f (n - f)).flatten
abbrev pD (q : Nat × Nat) : PyData := .tuple [.int q.1,.int q.2]
theorem NY {f : Nat} : CD f (k + 1) = CD f k ++ [(f,f + k)] := by unfold CD; rw [List.range_succ,List.map_append]; rfl
theorem JY {f : Nat} : (CD f k).length = k := by unfold CD; simp
theorem JZ : BX n (k + 1) = BX n k ++ CD k (n - k) := by unfold BX; rw [List.range_succ,List.map_append,List.flatten_append]; simp
theorem J0 : (BX n k).length <= n * k := by
 induction k with
 | zero => exact Nat.le_refl _
 | succ k ih => rw [JZ,List.length_append,JY,Nat.mul_succ]; omega
theorem J2 (h : k <= n) : ∀ q ∈ BX n k,q.1 <= q.2 /\ q.2 < n := by
 intro q hq
 unfold BX at hq
 obtain ⟨l,hl,hq⟩ := List.mem_flatten.mp hq
 obtain ⟨f,hf,rfl⟩ := List.mem_map.mp hl
 obtain ⟨i,hi,rfl⟩ := List.mem_map.mp hq
 have := List.mem_range.mp hf
 have := List.mem_range.mp hi
 exact ⟨by show f <= f + i; omega,by show f + i < n; omega⟩
def D3 (T : TM) : List (Nat × Nat) := (BX T.ds.length T.ds.length).filter fun q => BW T q.1 q.2
def BA (T : TM) : Option (Nat × Nat) := (D3 T).head?
def J3 : Option (Nat × Nat) -> PyData
 | none => .none
 | some q => pD q
def BY (T : TM) (f : Nat) : Nat -> Int
 | 0 => if f = 0 then T.st else T.hi
 | k + 1 => BY T f k + (T.cs.getD (f + k) []).sum - T.ds.getD (f + k) 0
theorem J4 {f : Nat} {x : α} (h : xs[f + k]? = some x) : (xs.drop f).take (k + 1) = (xs.drop f).take k ++ [x] := Bm (by rw [List.getElem?_drop]; exact h)
theorem J5 {T : TM} (ok : T.ok) {f : Nat} : ∀ k,f + k <= T.ds.length -> BY T f k = (if f = 0 then T.st else T.hi) + (((T.cs.drop f).take k).map List.sum).sum - ((T.ds.drop f).take k).sum
 | 0,_ => by rw [List.take_zero,List.take_zero,List.map_nil,List.sum_nil]; show (if f = 0 then T.st else T.hi) = _; omega
 | k + 1,h => by
  have ih := J5 ok (f := f) k (by omega)
  have lc := ok.lc
  have h1 : T.cs[f + k]? = some (T.cs.getD (f + k) []) := by rw [List.getD_eq_getElem?_getD,List.getElem?_eq_getElem (by omega)]; rfl
  have h2 : T.ds[f + k]? = some (T.ds.getD (f + k) 0) := NA (by omega)
  rw [J4 h1,J4 h2,List.map_append,List.sum_append,List.sum_append,List.map_cons,List.map_nil,List.sum_cons,List.sum_nil,List.sum_cons,List.sum_nil]
  show BY T f k + _ - _ = _
  omega
def FL (T : TM) (f l : Nat) : Bool := decide (BY T f (l + 1 - f) < T.lo)
theorem J6 {T : TM} (ok : T.ok) {f l : Nat} (h : f <= l) (hl : l < T.ds.length) : FL T f l = BW T f l := by
 unfold FL BW most FK part
 rw [J5 ok _ (by omega),Bool.eq_iff_iff,decide_eq_true_eq,decide_eq_true_eq]
 omega
end MF
end
section
namespace L2
open PySem PySem.Spec PyProof.Rows
section
variable {X : Cx} {pos : Pos}
end
end L2
end
section
namespace L2
open PySem PySem.Spec PyProof.Rows
section
variable {X : Cx}
end
section
variable {X : Cx}
end
section
variable {X : Cx}
def FM (d : PyData) (ss : List Str) : Bool := match d with | .str z => ss.any (fun y => y == z) | _ => false
def EK (d : PyData) (u : Value) : Bool := match d with | .str z => (match u with | .str a _ => a == z | _ => false) | _ => false
theorem J7 {d : PyData} : ∀ {ss : List Str} {us : List Value},At (ss.map V.str) us -> us.any (EK d) = FM d ss
 | [],us,h => by cases h; cases d <;> rfl
 | a :: ss,us,h => by
  cases h with
  | cons r t =>
   obtain ⟨k,rfl⟩ := r
   rw [List.any_cons,J7 t]
   cases d <;> first | rfl | (simp [FM,EK])
theorem J8 : ∀ {ss : List Str} {us : List Value},At (ss.map V.str) us -> ∀ u ∈ us,∃ a t,u = Value.str a t
 | [],us,h => by cases h; intro u hu; cases hu
 | a :: ss,us,h => by
  cases h with
  | cons r t =>
   intro u hu
   rcases List.mem_cons.mp hu with rfl | hu
   ·obtain ⟨k,rfl⟩ := r; exact ⟨_,_,rfl⟩
   ·exact J8 t u hu
end
end L2
end
section
namespace L2
open PySem PySem.Spec PyProof.Rows
open AutoSeq1 (wpAny_loadPart')
structure ZA3 (z TI TO i1 i2 i3 l1 l2 l3 : Addr) : Prop where
 TI_z : TI ≠ z
 TO_z : TO ≠ z
 TO_TI : TO ≠ TI
 i1_z : i1 ≠ z
 i1_TI : i1 ≠ TI
 i1_TO : i1 ≠ TO
 i2_z : i2 ≠ z
 i2_TI : i2 ≠ TI
 i2_TO : i2 ≠ TO
 i2_i1 : i2 ≠ i1
 i3_z : i3 ≠ z
 i3_TI : i3 ≠ TI
 i3_TO : i3 ≠ TO
 i3_i1 : i3 ≠ i1
 i3_i2 : i3 ≠ i2
 l1_z : l1 ≠ z
 l1_TO : l1 ≠ TO
 l1_i1 : l1 ≠ i1
 l1_i2 : l1 ≠ i2
 l1_i3 : l1 ≠ i3
 l2_z : l2 ≠ z
 l2_TO : l2 ≠ TO
 l2_i1 : l2 ≠ i1
 l2_i2 : l2 ≠ i2
 l2_i3 : l2 ≠ i3
 l3_z : l3 ≠ z
 l3_TO : l3 ≠ TO
 l3_i1 : l3 ≠ i1
 l3_i2 : l3 ≠ i2
 l3_i3 : l3 ≠ i3
section
variable {P : Program} {w : World} {K : PySem.W.Frag} {A : Around} {E : Value -> Shared -> Prop} {s : Shared} (S1 S2 S3 : Be P w K)
end
end L2
end
section
namespace L2
open PySem PySem.Spec PyProof.Rows
open AutoSeq1 (wpAny_loadPart')
end L2
end
section
namespace L2
open PySem PySem.Spec PyProof.Rows
section
variable {X : Cx}
def NZ (a b : TI) : TI := fun σ H R => a σ H R \/ b σ H R
theorem Oa {tg it : Expr} {a b : TI} (ha : PI X tg it a) (hb : PI X tg it b) : PI X tg it (NZ a b) := fun pins s σ H R I h => h.elim (fun q => ha pins s σ H R I q) fun q => hb pins s σ H R I q
end
section
variable {X : Cx}
end
section
variable {prog : Program} {w : World} {A : Around} {R : Result -> Shared -> Prop} {s : Shared} {elt tg1 it1 tg2 it2 tg3 it3 : Expr} {ifs1 ifs2 ifs3 : List Expr} {scope : Scope} {pos : Pos} {it acc : Value} {env : Env}
end
def Ob (wi2 : TI) (g2 : TG) (tt2 : TT) (wi3 : TI) (g3 : TG) (tt3 : TT) (te : TE) : St -> List V -> Hp -> (List V -> Hp -> Prop) -> Prop := fun σ ys H N => wi2 σ H fun J H1 =>
 ∃ W : Nat -> Nat -> List V -> Hp -> Prop,(∃ m,W 0 m ys H1) /\ ∀ j m zs H,W j m zs H ->
  (J.stop j H /\ N zs H) \/
  (J.go j H /\ ∃ N2 : List V -> Hp -> Prop, (∀ zs' H', N2 zs' H' -> ∃ m', m' < m /\ W (j + 1) m' zs' H') /\ ∀ x H', J.yld j H x H' -> g2 x σ H' fun σ3 H2 => Keep σ σ3 /\ tt2 σ3 H2 fun b H3 =>
   br b (FI wi3 g3 tt3 te σ3 zs H3 N2) (N2 zs H3))
theorem Ac.gotList {X : Cx} {pins : List (Addr × Obj)} {σ : St} {H : Hp} {s : Shared} {h' : Heap} {tk n : Nat} {T : Addr} {vs : List V} {us : List Value} (I : Ac X pins σ H s)
  (k : ∀ b o,s.heap.get? b = some o -> h'.get? b = some o) (hT : s.heap.objs.size <= T) (ht : h'.get? T = some { cls := .type "list",data := .seq us.toArray n }) (rv : At vs us) (hz : vs.length <= sizeLine) :
  Ac X pins σ (upd H T (.lst vs)) { s with heap := h',toks := tk } := by
 have hfr : H T = none := I.hok.fresh hT
 have nT : ∀ b u,H b = some u -> b ≠ T := fun b u e => Bd e hfr
 refine I.step (g' := s.gens) (d' := s.drawn) (ch := []) (fun b hb => absurd hb (by simp)) (fun b o _ _ hc e _ => k b o e) (fun b o _ _ hc e _ => ⟨o.slots,k b o e⟩)
  (fun b o hc e n => ?_) (fun b o hc e => ⟨o,k b o e⟩) (fun b xs e => by rw [Ap (nT b _ e)]; exact e) (fun b o xs e => by rw [Ap (nT b _ e)]; exact e) (fun b ps e => ⟨#[],by rw [Ap (nT b _ e),e]; simp⟩) (fun m hm => ?_) (fun b u e => ?_) I.bare
 ·rw [Ap (Nat.ne_of_lt (Nat.lt_of_lt_of_le (Heap.lt_size e) hT))]; exact n
 ·obtain ⟨o,es,ep,ho,r⟩ := hm
  exact ⟨o,es,ep,k _ o ho,r⟩
 ·by_cases hb : b = T
  ·subst hb
   rw [Ai] at e; cases e
   exact ⟨hz,us,n,rv,ht⟩
  ·rw [Ap hb] at e
   exact (I.hok b u e).stay (fun c v hc q => k c v q) (fun c q => by rw [Ap (nT c _ q)]; exact q) fun c xs q => by rw [Ap (nT c _ q)]; exact q
section
variable {X : Cx}
end
theorem J9 (K : PySem.W.Frag) {o e : Expr} {es : List Expr} {to : TE} {t : TA} {name : Str} {apos cpos : Pos} {T id : String} {r : V -> List V -> Hp -> VK -> Prop} {X : Cx} (pa : PlainAttrs T) (slot : Slot T name id) (hty : typeOf (.builtin id) = pure (.type "method_descriptor")) (hm : Fc X id r) (ho : PE X o to) (ha : PA X (e :: es) t) (hK : X.K = K := by rfl)
  (hbase : attributeBase o name X.env (eval o X.env) = eval o X.env := by rfl)
  (hfew : ((backTo cpos (starEach (e :: es) X.env)).all (fun x => !x.1) && (backToKw cpos (keywordEach [] X.env)).all (fun x => x.1.isSome)
   && decide ((e :: es).length + ([] : List Keyword).length + (if ([] : List Keyword).isEmpty then 0 else 1) < 30)) = true := by rfl)
  (hline : (apos.endLine == cpos.line) = true := by rfl) (hs : starEach (e :: es) X.env = (false,eval e X.env) :: starEach es X.env := by rfl) (hplain : (backTo cpos (starEach es X.env)).any (·.1) = false := by rfl) :
  PE X (.Call (.Attribute o name apos) (e :: es) [] cpos) (GX K T r to t) := hK ▸ B5 pa slot hty hm ho ha hbase hfew hline hs hplain
def WalkO (J : It) (cap : List (Option Nat)) (g : TG) (tt : TT) (wi2 : TI) (g2 : TG) (tt2 : TT) (wi3 : TI) (g3 : TG) (tt3 : TT) (te : TE) (σ : St) (Q : List V -> Hp -> Prop) (H1 : Hp) : Prop :=
 ∃ W : Nat -> Nat -> List V -> Hp -> Prop,(∃ m,W 0 m [] H1) /\ ∀ i m ys H,W i m ys H ->
  (J.stop i H /\ Q ys H) \/
  (J.go i H /\ ∃ N : List V -> Hp -> Prop, (∀ ys' H', N ys' H' -> ∃ m', m' < m /\ W (i + 1) m' ys' H') /\ ∀ x H', J.yld i H x H' -> g x (AJ cap σ) H' fun σ2 H2 => Keep (AJ cap σ) σ2 /\ tt σ2 H2 fun b H3 =>
   br b (Ob wi2 g2 tt2 wi3 g3 tt3 te σ2 ys H3 N) (N ys H3))
end L2
end
section
namespace L2
open PySem PySem.Spec PyProof.Rows
def C1 (i j k : Int) : List Int := (List.range (CY i j k)).map fun t : Nat => i + (t : Int) * k
theorem Oc {n : Nat} {i k : Int} {acc : Array Value} (h : ItemsOf (fun t v => ∃ u,v = Value.int (i + (t : Int) * k) u) acc n) : At (((List.range n).map fun t : Nat => i + (t : Int) * k).map V.int) acc.toList := by
 have go : ∀ (m : Nat) (us : List Value),us.length = m -> (∀ (j : Nat) (v : Value),us[j]? = some v -> ∃ t,v = .int (i + (j : Int) * k) t) -> At (((List.range m).map fun t : Nat => i + (t : Int) * k).map V.int) us := by
  intro m
  induction m with
  | zero => intro us hl _; cases us with
   | nil => exact .nil
   | cons _ _ => cases hl
  | succ m ih =>
   intro us hl hu
   have hne : us ≠ [] := fun e => by rw [e] at hl; cases hl
   have e : us = us.dropLast ++ [us.getLast hne] := (List.dropLast_concat_getLast hne).symm
   have hdl : us.dropLast.length = m := by rw [List.length_dropLast,hl]; rfl
   rw [List.range_succ,List.map_append,List.map_append,e]
   refine (ih us.dropLast hdl fun j v hv => ?_).append (.cons ?_ .nil)
   ·refine hu j v ?_
    rw [e,List.getElem?_append_left (List.getElem?_eq_some_iff.mp hv).1]; exact hv
   ·refine hu m _ ?_
    rw [List.getLast_eq_getElem,List.getElem?_eq_some_iff]
    exact ⟨by omega,by congr 1; omega⟩
 refine go n acc.toList (by simpa using h.1) fun j v hv => ?_
 exact h.2 j v (by simpa using hv)
section
variable {X : Cx}
def Od (ta : TA) : TE := fun σ H Q => ta σ H fun vs H1 => ∃ i j k : Int,vs = [.int i,.int j,.int k] /\ (-1000 <= i /\ i <= 1000 /\ -1000 <= j /\ j <= 1000 /\ 1 <= k /\ k <= 1000) /\ ∀ p,H1 p = none -> Q (.ref p) (upd H1 p (.lst ((C1 i j k).map V.int)))
theorem Oe {a b c : Expr} {ta : TA} {p pos p2 pos2 : Pos} (hc : X.calm = true) (hg0 : Gl X "list") (hm0 : X.mg "list" = none) (hg : Gl X "range") (hm : X.mg "range" = none) (ha : PA X [a,b,c] ta)
  (hs0 : starEach [.Call (.Name "range" p2) [a,b,c] [] pos2] X.env = [(false,eval (.Call (.Name "range" p2) [a,b,c] [] pos2) X.env)] := by rfl) (hs : starEach [a,b,c] X.env = (false,eval a X.env) :: starEach [b,c] X.env := by rfl) (hs2 : starEach [b,c] X.env = [(false,eval b X.env),(false,eval c X.env)] := by rfl) :
  PE X (.Call (.Name "list" p) [.Call (.Name "range" p2) [a,b,c] [] pos2] [] pos) (Od ta) := by
 intro pins s σ H Q I h
 refine Call_ (Cq I hg0 hm0 Hx (PyProof.Rows.callWith_type1 (by
  rw [hs0]
  refine Calls.spliced_cons (Call_ (Cq I hg hm boot_range (PyProof.Rows.callWith_type1 (Ar (ha pos2 pins s σ H _ I h) fun us s1 ⟨vs,H1,I1,r1,q1⟩ => ?_) hs (by rw [hs2]; rfl))))
  obtain ⟨i,j,k,e,⟨q1,q2,q3,q4,q5,q6⟩,q⟩ := q1
  subst e
  rcases r1 with _ | ⟨r,r1⟩
  rcases r1 with _ | ⟨r',r1⟩
  rcases r1 with _ | ⟨r'',r1⟩
  cases r1
  obtain ⟨t,rfl⟩ := r
  obtain ⟨t',rfl⟩ := r'
  obtain ⟨t'',rfl⟩ := r''
  have hk : k.natAbs.log2 < 30 := by
   by_cases z : k.natAbs = 0
   ·omega
   ·exact (Nat.log2_lt z).mpr (show k.natAbs < 2 ^ 30 by omega)
  have ndv : Builtin.divisionGoesByPylong (j - i) k = false := by
   unfold Builtin.divisionGoesByPylong
   dsimp only
   rw [show (decide ((if (k == 0) = true then 0 else k.natAbs.log2 / 30 + 1) > 300)) = false from decide_eq_false (by
    split
    ·omega
    ·rw [Nat.div_eq_of_lt hk]; omega),Bool.false_and]
  refine call_range_3 (by omega) (Calls.spliced_nil ?_) (.inl ndv)
  have hsz : (s1.heap.push { cls := .type "range",data := .fields #[.int i t,.int j t',.int k t''] }).objs.size = s1.heap.objs.size + 1 := Heap.size_push ..
  obtain ⟨b0,b1⟩ := JQ q5 q1 q4
  refine call_list_range (n := CY i j k) (I.ok.hd hc) (IsRange.new ..) (Nv q5 q6 q1 q2 q3 q4) (by unfold CY; omega) (by unfold CY; omega) fun h' tk acc' c' hk hS hacc => ?_
  have hv := Oc hacc
  have I2 := I1.gotList (tk := tk) (T := s1.heap.objs.size + 1) (us := acc'.toList) (n := c') (fun b o e => hk b o (Heap.get?_push_of_some _ e)) (Nat.le_succ _) (by rw [<- hsz]; simpa using hS) hv (by
   rw [List.length_map,List.length_map,List.length_range]
   have : (3000 : Nat) <= sizeLine := by decide
   unfold CY; omega)
  refine ⟨.ref (s1.heap.objs.size + 1),_,I2,?_,q _ (I1.hok.fresh (Nat.le_succ _))⟩
  show Aw (.ref (s1.heap.objs.size + 1)) (.ref _)
  rw [<- hsz]; rfl) hs0 rfl))
end
theorem Of {i j k : Int} : ((C1 i j k).map V.int).all CN = true := by
 rw [List.all_eq_true]
 intro x hx
 obtain ⟨a,_,rfl⟩ := List.mem_map.mp hx
 rfl
end L2
namespace MF
open PySem PySem.Spec PyProof.Rows L2
theorem Og {f e : Int} {h : Nat} (he : 1 <= e) (h8 : h < 8) : BP (.int (h : Int)) ((C1 f 8 e).map V.int) = decide (¬ ((h : Int) < f \/ ((h : Int) - f) % e ≠ 0)) := by
 unfold BP C1
 rw [List.map_map,List.any_map]
 have key : ((List.range (CY f 8 e)).any ((fun y => CO y (V.int (h : Int))) ∘ V.int ∘ fun t : Nat => f + (t : Int) * e)) = true ↔ ¬ ((h : Int) < f \/ ((h : Int) - f) % e ≠ 0) := by
  rw [List.any_eq_true]
  constructor
  ·rintro ⟨t,ht,q⟩
   have q' : (f + (t : Int) * e == (h : Int)) = true := q
   have q' : f + (t : Int) * e = (h : Int) := by simpa using q'
   have h3 : 0 <= (t : Int) * e := Int.mul_nonneg (by omega) (by omega)
   rintro (c | c)
   ·omega
   ·apply c
    rw [show (h : Int) - f = (t : Int) * e by omega]
    exact Int.mul_emod_left _ _
  ·intro c
   have c1 : ¬ (h : Int) < f := fun z => c (.inl z)
   have c2 : ((h : Int) - f) % e = 0 := by
    by_cases z : ((h : Int) - f) % e = 0
    ·exact z
    ·exact absurd (.inr z) c
   have hd : ((h : Int) - f) = ((h : Int) - f) / e * e := by
    have := Int.emod_add_mul_ediv ((h : Int) - f) e
    rw [c2] at this
    rw [Int.mul_comm]; omega
   have h0 : 0 <= ((h : Int) - f) / e := Int.ediv_nonneg (by omega) (by omega)
   refine ⟨(((h : Int) - f) / e).toNat,List.mem_range.mpr ((NB (n := 8) he).mpr ?_),?_⟩
   ·rw [Int.toNat_of_nonneg h0]
    show f + _ < (8 : Int)
    omega
   ·show (f + ((((h : Int) - f) / e).toNat : Int) * e == (h : Int)) = true
    rw [Int.toNat_of_nonneg h0,beq_iff_eq]
    omega
 cases z : ((List.range (CY f 8 e)).any ((fun y => CO y (V.int (h : Int))) ∘ V.int ∘ fun t : Nat => f + (t : Int) * e)) with
 | true => exact (decide_eq_true (key.mp z)).symm
 | false => exact (decide_eq_false fun c => by rw [key.mpr c] at z; cases z).symm
end MF
end
section
namespace L2
open PySem PySem.Spec PyProof.Rows
section
variable {X : Cx}
end
end L2
end
section
namespace L2
open PySem PySem.Spec PyProof.Rows
open AutoSeq1 (wpAny_loadPart')
section
variable {P : Program} {w : World} {K : PySem.W.Frag} {A : Around} {E : Value -> Shared -> Prop} {s : Shared} (S1 S2 : Be P w K)
end
end L2
end
section
namespace L2
open PySem PySem.Spec PyProof.Rows
section
variable {X : Cx}
section
open HT
variable {prog : Program} {w : World} {A : Around} {E : Value -> Shared -> Prop} {s : Shared}
end
def Oh : R2 := fun x y H Q => ∃ p d e,Aa p H d x /\ Aa p H e y /\ e.canLay0 = true /\ e.hasDict = false /\ e.depth <= 20 /\ d.canLay0 = true /\ d.hasDict = false /\ Q (.bl (!PyData.eqv d e)) H
theorem EL {k : Nat} (hr : AX k X.A) : OpR X (compareOp .NotEq) Oh := by
 intro pins s σ H x y v u Q I rx ry h
 obtain ⟨p,d,e,rd,re,ce,he,dp,cd,hd,q⟩ := h
 have un := hr.un
 obtain ⟨bs,rb⟩ := Aa.reads I e y u he re ry
 obtain ⟨as,ra⟩ := Aa.reads I d x v hd rd rx
 exact SeqAt.compareNe_reads ra rb cd ce (by omega) (AY I q rfl)
end
theorem ObjOk.there {P : Program} {w : World} {H : Hp} {h : Heap} {a : Addr} {o : HO} (x : ObjOk P w H h a o) : ∃ u,h.get? a = some u := by
 cases o with
 | lst xs => obtain ⟨_,_,_,_,e⟩ := x; exact ⟨_,e⟩
 | tup xs => obtain ⟨_,_,_,o,e,_⟩ := x; exact ⟨_,e⟩
 | dK kvs => obtain ⟨_,_,_,_,o,_,_,e,_⟩ := x; exact ⟨_,e⟩
 | dT kvs => obtain ⟨_,_,_,_,o,_,_,e,_⟩ := x; exact ⟨_,e⟩
 | set S n => obtain ⟨o,_,_,_,e,_⟩ := x; exact ⟨_,e⟩
 | ins C dx fs => obtain ⟨_,_,_,e,_⟩ := x; exact ⟨_,e⟩
 | own y => obtain ⟨_,e⟩ := x; exact ⟨_,e⟩
 | xd fs => obtain ⟨_,⟨_,_,_,e,_⟩,_⟩ := x; exact ⟨_,e⟩
 | rng lo hi => obtain ⟨_,_,_,e⟩ := x; exact ⟨_,e⟩
 | frz ob u => obtain ⟨e,_⟩ := x; exact ⟨_,e⟩
 | tbl ps => exact ⟨_,x⟩
 | met f y => exact ⟨_,x⟩
 | ext φ => obtain ⟨_,⟨_,e⟩,_⟩ := x; exact ⟨_,e⟩
structure Oi (P : Program) (w : World) (outer : List Env) (H : Hp) (s : Shared) (H' : Hp) (C e : Addr) (s' : Shared) : Prop where
 os : s'.os = s.os
 bare : AllBare s'.gens
 un : Un (AE outer) [] H H' s.heap s'.heap
 fly : ∃ B t,Heap.FlyingW B outer e (.ref C) t s'.heap /\ (∀ b o,s.heap.get? b = some o -> H b = none -> b ∉ AE outer -> B.get? b = some o) /\
  (∀ b o,s.heap.get? b = some o -> b ∉ AE outer -> ∃ o',B.get? b = some o') /\ HOk P w H' B
def CF (P : Program) (w : World) : Cc := fun outer H s E v s' => ∃ C e H',v = .ref e /\ Oi P w outer H s H' C e s' /\ E (.ref C) none H'
structure IsDef (X : Cx) (E : XK) : Prop where
 stk : X.stack = X.env :: X.outer
 fr : X.env.frame = some X.env.locals
 ex : X.ex = []
 xe : ∀ e s',wpAny (model X.prog X.w) X.A (leaving X.env e) (fun _ s'' => CF X.prog X.w X.outer X.H₀ X.s₀ E e s'') (fun _ _ => False) s' -> X.xe e s'
section
variable {X : Cx} {pins : List (Addr × Obj)} {σ : St} {H H' : Hp} {s s' : Shared} {C e : Addr} {E : XK}
theorem Oj {env : Env} {l : List Env} {b L : Addr} (hf : env.frame = some L) (h : b ∈ AE (env :: l)) : b = L \/ b ∈ AE l := by
 unfold AE at h ⊢
 obtain ⟨x,hx,hb⟩ := List.mem_filterMap.mp h
 rcases List.mem_cons.mp hx with rfl | hx
 ·rw [hf] at hb; exact .inl (Option.some.inj hb).symm
 ·exact .inr (List.mem_filterMap.mpr ⟨x,hx,hb⟩)
theorem IsDef.un (D : IsDef X E) (I : Ac X pins σ H s) (u : Un (AE X.stack) [] H H' s.heap s'.heap) {B h' : Heap} (up : s'.heap.UpToSlots h') (ff : s'.heap.FunFrames B X.stack) (st : B.StaysIn h')
  (kB : ∀ b o,s.heap.get? b = some o -> H b = none -> b ∉ AE X.stack -> B.get? b = some o) (tB : ∀ b o,s.heap.get? b = some o -> b ∉ AE X.stack -> ∃ o',B.get? b = some o') :
  Un (AE X.outer) [] X.H₀ H' X.s₀.heap h' /\ (∀ b o,X.s₀.heap.get? b = some o -> X.H₀ b = none -> b ∉ AE X.outer -> B.get? b = some o) /\
   (∀ b o,X.s₀.heap.get? b = some o -> b ∉ AE X.outer -> ∃ o',B.get? b = some o') := by
 have nl : ∀ b o,X.s₀.heap.get? b = some o -> b ≠ X.env.locals := fun b o e z => by
  have := Heap.lt_size e
  rw [z] at this
  exact absurd (Nat.lt_of_lt_of_le this I.ok.above) (Nat.lt_irrefl _)
 have nx : ∀ b,b ∉ X.ex := fun b z => by rw [D.ex] at z; cases z
 have ns : ∀ b o,X.s₀.heap.get? b = some o -> b ∉ AE X.outer -> b ∉ AE X.stack := fun b o e n z => by
  rw [D.stk] at z
  rcases Oj D.fr z with q | q
  ·exact nl b o e q
  ·exact n q
 have kB' : ∀ b o,X.s₀.heap.get? b = some o -> X.H₀ b = none -> b ∉ AE X.outer -> B.get? b = some o := fun b o e n hb =>
  kB b o (I.base.keep b o e n hb (nx b)) (I.base.free b o e n (nx b)) (ns b o e hb)
 have tB' : ∀ b o,X.s₀.heap.get? b = some o -> b ∉ AE X.outer -> ∃ o',B.get? b = some o' := fun b o e hb => by
  obtain ⟨o1,e1⟩ := I.base.there b o e (nx b)
  exact tB b o1 e1 (ns b o e hb)
 have frn : ∀ b,b ∈ AE X.outer -> ∀ o,s'.heap.get? b = some o -> ∀ vs,o.data ≠ .fields vs := fun b hb o eo => by
  have hb' : b ∈ (X.env :: X.outer).filterMap (·.frame) := by
   obtain ⟨x,hx,hf⟩ := List.mem_filterMap.mp hb
   exact List.mem_filterMap.mpr ⟨x,.tail _ hx,hf⟩
  rw [D.stk] at ff
  obtain ⟨_,o',ho',hd⟩ := ff.mem hb'
  rw [eo] at ho'
  cases ho'
  exact hd
 have sub : ∀ b,b ∈ AE X.outer -> b ∈ AE X.stack := fun b hb => by
  rw [D.stk]
  obtain ⟨x,hx,hf⟩ := List.mem_filterMap.mp hb
  exact List.mem_filterMap.mpr ⟨x,.tail _ hx,hf⟩
 refine ⟨⟨fun b o e n hb _ => st b o (kB' b o e n hb),fun b o e n hb _ => ?_,fun b o e n _ => ?_,fun b o e _ => ?_,fun b xs q => u.tups b xs (I.base.tups b xs q),fun b o' xs q => u.frzs b o' xs (I.base.frzs b o' xs q),fun b ps q => ?_⟩,kB',tB'⟩
 ·obtain ⟨s1,e1⟩ := I.base.slot b o e n hb (nx b)
  obtain ⟨s2,e2⟩ := u.slot b _ e1 (I.base.free b o e n (nx b)) (sub b hb) (by simp)
  obtain ⟨s3,e3⟩ := up b _ e2 (frn b hb _ e2)
  exact ⟨s3,e3⟩
 ·obtain ⟨o1,e1⟩ := I.base.there b o e (nx b)
  exact u.free b o1 e1 (I.base.free b o e n (nx b)) (by simp)
 ·by_cases hb : b ∈ AE X.outer
  ·obtain ⟨o1,e1⟩ := I.base.there b o e (nx b)
   obtain ⟨o2,e2⟩ := u.there b o1 e1 (by simp)
   obtain ⟨s3,e3⟩ := up b _ e2 (frn b hb _ e2)
   exact ⟨_,e3⟩
  ·obtain ⟨o1,e1⟩ := tB' b o e hb
   exact ⟨o1,st b o1 e1⟩
 ·obtain ⟨m1,e1⟩ := I.base.tbls b ps q
  obtain ⟨m2,e2⟩ := u.tbls b _ e1
  exact ⟨m1 ++ m2,by rw [e2,Array.append_assoc]⟩
theorem IsDef.passes (D : IsDef X E) : E9 (CF X.prog X.w) X E := by
 intro pins σ H s v s' I ⟨C,e,H',hv,x,q⟩
 subst hv
 refine D.xe _ _ ?_
 obtain ⟨B,t,fl,kB,tB,hB⟩ := x.fly
 have ff := fl.2.2.1
 have fl2 := fl
 rw [D.stk] at fl2
 have hfr : X.A.frames = some (X.env :: X.outer) := by rw [<- D.stk]; exact I.ok.frames
 refine wpAny_leaves_onW hfr D.fr fl2 fun h' fl' up => ?_
 obtain ⟨u,k1,k2⟩ := D.un I x.un up ff fl'.1 kB tB
 exact ⟨C,e,H',rfl,⟨x.os.trans I.os,x.bare,u,B,t,fl',k1,k2,hB⟩,q⟩
theorem IsDef.made (D : IsDef X E) (I : Ac X pins σ H s) {h1 : Heap} {vs : List Value} (hx : Heap.MadeExcOf s.heap h1 e (.ref C) vs) (q : E (.ref C) none H) : X.xe (.ref e) { s with heap := h1 } := by
 refine D.xe _ _ ?_
 have hfr : X.A.frames = some (X.env :: X.outer) := by rw [<- D.stk]; exact I.ok.frames
 have hin : ∀ env ∈ (X.env :: X.outer),∀ b,env.frame = some b -> b ∈ AE (X.env :: X.outer) := fun env he b hb => List.mem_filterMap.mpr ⟨env,he,hb⟩
 have stS : s.heap.FunFrames X.base (X.env :: X.outer) := by rw [<- D.stk]; exact I.stack
 have ff := PySem.W.funFrames_hide stS hin
 refine wpAny_leaves_madeW (base := PySem.W.hideAll s.heap (AE (X.env :: X.outer))) (h := s.heap) hfr D.fr (fun b o q => PySem.W.of_hideAll _ q) ff hx fun h' t fl tup tn up => ?_
 have gB : ∀ b o,s.heap.get? b = some o -> b ∉ AE X.stack -> (PySem.W.hideAll s.heap (AE (X.env :: X.outer))).get? b = some o := fun b o e n => PySem.W.hideAll_get _ e (by rw [<- D.stk]; exact n)
 have ff1 : h1.FunFrames (PySem.W.hideAll s.heap (AE (X.env :: X.outer))) X.stack := by
  rw [D.stk]
  exact ff.of_keeps fun b o hb _ => ⟨o,hx.keeps b o hb,rfl⟩
 obtain ⟨u,k1,k2⟩ := D.un (s' := { s with heap := h1 }) (H' := H) I (Un.kept hx.keeps) up ff1 fl.1 (fun b o e _ n => gB b o e n) (fun b o e n => ⟨o,gB b o e n⟩)
 refine ⟨C,e,H,rfl,⟨I.os,I.bare,u,_,_,fl,k1,k2,fun a o ea => (I.hok a o ea).stay (fun b u hb eb => ?_) (fun _ z => z) fun _ _ z => z⟩,q⟩
 refine gB b u eb fun z => ?_
 have hn := I.stkFree b z
 rcases hb with rfl | hb
 ·rw [ea] at hn; cases hn
 ·rw [hb] at hn; cases hn
end
end L2
end
section
namespace L2
open PySem PySem.Spec PyProof.Rows PySem.W Builtin Builtin.ObjectAttr Builtin.Getset_descriptor
def ExcAt (h : Heap) (x D : Addr) : Prop := ∃ ox,h.get? x = some ox /\ ox.cls = .ref D
theorem ExcAt.type {M : Model} {h : Heap} {x D : Addr} (I : ExcAt h x D) : Looks M h (typeOf (.ref x)) (.ref D) :=
 match I with | ⟨_,h1,h2⟩ => h2 ▸ (Looks.ld h1).andThen .now
structure DG (K : Frag) (D : Addr) : Prop where
 ga : findIn K (.ref D) "__getattribute__" = some (some (.builtin "BaseException.__getattribute__"))
 gt : findIn K (.ref D) "__getattr__" = some none
 cl : (clsIn K D).isSome = true
 ca : findIn K (.ref D) "__class__" = some (some (.builtin "object.__class__"))
 cn : specialIn K (.builtin "object.__class__") "__get__" = some (some (.builtin "getset_descriptor.__get__"))
 tk : takesIn K (.builtin "object.__class__") = some true
 ob : mroIn K D (.type "object") = some true
 bx : mroIn K D (.type "BaseException") = some true
section
variable {prog : Program} {w : World} {A : Around} {E : Value -> Shared -> Prop} {s : Shared} {K : Frag} {x D : Addr}
theorem Ol {M : Model} {T : String} {h : Heap} (X : K.In h) (I : ExcAt h x D) (e : mroIn K D (.type T) = some true) : Looks M h (isInstance (.ref x) (.type T)) true := I.type.andThen (looks_mroIn X e)
theorem Om {M : Model} {h : Heap} (O : DG K D) (X : K.In h) (I : ExcAt h x D) : Looks M h (Builtin.ObjectAttr.find (.ref x) (.ref D) "__class__") (.bind (.builtin "getset_descriptor.__get__") (.builtin "object.__class__")) := by
 have d : Looks M h (Builtin.ObjectAttr.dataDescriptor? (some (.builtin "object.__class__")) (some (.builtin "getset_descriptor.__get__"))) (some (.builtin "getset_descriptor.__get__",.builtin "object.__class__")) := (looks_takesIn X O.tk).andThen .now
 have g : Looks M h (Builtin.ObjectAttr.getOf (some (.builtin "object.__class__"))) (some (.builtin "getset_descriptor.__get__")) := looks_specialIn X O.cn
 exact (looks_findIn X O.ca).andThen (g.andThen (d.andThen (Looks.tag .now)))
theorem On {R : Result -> Shared -> Prop} {tp : Value} (O : DG K D) (X : K.In s.heap) (I : ExcAt s.heap x D) (h : R (.ok (.ret (.ref D))) s) :
  codeAny (model prog w) A (.call (.builtin "getset_descriptor.__get__") ⟨[.builtin "object.__class__",.ref x,tp],[]⟩) R s := by
 cases s
 have t := I.type (M := model prog w)
 have o := looks_mroIn (M := model prog w) X O.ob
 have a := dga_obj (.builtin "object.__class__") tp x
 have sl := KF.slot_gs
 refine codeAny_call_builtin sl.plain KF.entry_gs (sl.check _ _ _ _ _ _ _ _ KF.type_class (KF.args_gs _ _ _) ?_)
 have ow := KF.owner_class
 unfold Builtin.«getset_descriptor.__get__» descrGet descrGetter descrCheckInstance descrNameAndClass isInstance
 simp only [a,ow]
 repeat (first | with_reducible refine Looks.at (by assumption) ?_ | wp_step)
 simp only [ow]
 repeat (first | with_reducible refine Looks.at (by assumption) ?_ | wp_step)
 have q : (Code.builtin "object.__class__" ⟨[.ref x],[]⟩).quiet = true := Code.quiet_builtin _ (by decide +kernel)
 refine ⟨q,codeAny_builtin KF.entry_class ?_⟩
 simp only [Builtin.«object.__class__»,shownTypeOf]
 repeat (first | assumption | with_reducible refine Looks.at (by assumption) ?_ | wp_step)
set_option maxHeartbeats 1000000 in
theorem Oo {Q : Option Value -> Shared -> Prop} (O : DG K D) (X : K.In s.heap) (I : ExcAt s.heap x D) (h : Q (some (.ref D)) { s with toks := s.toks + 1 }) : wpAny (model prog w) A (getAttr? (.ref x) "__class__") Q E s := by
 cases s
 have L0 := I.type (M := model prog w)
 have L1 := looks_findIn (M := model prog w) X O.ga
 have L2 := looks_findIn (M := model prog w) X O.gt
 have L3 := Om (M := model prog w) O X I
 have L4 := Ol (M := model prog w) X I O.bx
 have b := PySem.F.attr_ValueError.ga.bind (.ref x)
 have n : (Value.builtin "BaseException.__getattribute__" == Value.builtin "object.__getattribute__") = false := by decide +kernel
 simp only [getAttr?,getAttrBy?,getAttrBy]
 repeat (any_goals (first | assumption | with_reducible refine Looks.at (by assumption) ?_ | wp_step))
 refine codeAny_call_builtin PySem.F.attr_ValueError.ga.plain F.entry_bexc_ga ?_
 have kd : builtinKind "BaseException.__getattribute__" = some .slot := by decide +kernel
 have sp : splitId "BaseException.__getattribute__" = some ("BaseException","__getattribute__") := by decide +kernel
 have ar := F.args_bexc_ga (.ref x)
 simp only [checkBuiltinCall,kd,sp]
 repeat (any_goals (first | assumption | with_reducible refine Looks.at (by assumption) ?_ | exact wpAny_of_eq (ar _) (wpAny_pure ‹_›) | wp_step))
 refine On O X I ?_
 repeat (any_goals (first | assumption | wp_step))
theorem Op (O : DG K D) : KitX K (.ref x) (.ref D) (fun h => ExcAt h x D) := by
 obtain ⟨cd,hc⟩ := Option.isSome_iff_exists.mp O.cl
 have at_ : ∃ c d sl,K.lookup D = some ⟨c,d,.cls cd,sl⟩ := by
  unfold clsIn at hc
  split at hc
  ·rename_i ho; exact ⟨_,_,_,by rw [ho]; cases hc; rfl⟩
  ·cases hc
 obtain ⟨c,d,sl,ho⟩ := at_
 refine ⟨fun _ _ _ I => I.type,fun _ _ X _ => ?_,fun h tp dd its n sl' X htp => ?_,fun X I k => Oo O X I k⟩
 ·exact (Looks.ld (X _ _ ho)).andThen .now
 ·cases e : (Value.ref D == Value.ref tp)
  ·rfl
  ·have e' : D = tp := by simpa using e
   have := X _ _ ho
   rw [e',htp] at this
   cases this
end
def D4 (a D : Addr) : HO := .ext fun h => ∃ oe,h.get? a = some oe /\ oe.cls = .ref D
section
variable {X : Cx} {pins : List (Addr × Obj)} {σ : St} {H : Hp} {s : Shared} {A : Around} {E : Value -> Shared -> Prop} {Q : Value -> Shared -> Prop} {c : Value} {b : Bool} {a D : Addr}
theorem Oq (I : Ac X pins σ H s) (e : H a = some (D4 a D)) (O : DG X.K D) (k : PySem.W.kitOne X.K (.ref D) c = some b) (h : ∀ tk,Q (.bool b) { s with toks := tk }) :
  wpAny (model X.prog X.w) A (call (.builtin "isinstance") [.ref a,c]) Q E s := by
 obtain ⟨h1,_,_⟩ := (show ObjOk X.prog X.w H s.heap a (D4 a D) from I.hok a _ e)
 exact PySem.W.kia_one (Op O) I.kIn h1 k (fun z => nomatch z) h
end
end L2
end
section
namespace L2
open PySem PySem.Spec PyProof.Rows
theorem Os {K : PySem.W.Frag} {mg : Str -> Option Value} {base : Heap} (M : Mod K mg base) : ∃ (loose : List Str) (mb : Str -> Option Value),PySem.W.TopRead default loose mg mb base := by
 obtain ⟨mb,hb,hbb⟩ := M.blt
 obtain ⟨o,es,ep,ho,hd,hk,hf⟩ := M.glob
 refine ⟨es.toList.filterMap (fun e => match e.key with | .str n _ => some n | _ => none),mb,⟨⟨o,es,ep,ho,hd,hk,hf⟩,hb,M.nolimit,hbb,fun x _ hx _ _ _ => ?_⟩⟩
 rw [<- hf]
 unfold nsFind findBy
 rw [<- Array.find?_toList]
 cases q : es.toList.find? (fun e => e.key.isStr x) with
 | none => rfl
 | some e =>
  exfalso
  have hm := List.mem_of_find?_eq_some q
  have hs := List.find?_some q
  obtain ⟨n,t,hn⟩ := hk e (by simpa using hm)
  refine hx (List.mem_filterMap.mpr ⟨e,hm,?_⟩)
  rw [hn] at hs ⊢
  have : n = x := by simpa [Value.isStr] using hs
  rw [this]
abbrev CG : List Value := [.type "ValueError",.type "Exception",.type "BaseException",.type "object"]
section
variable {X : Cx} {E : XK} {st : Stmt} {rest : List Stmt} {t : TS}
theorem EM (D : IsDef X E) {x : Str} {C : Addr} {a : Expr} {ta : TA} {np cpos pos : Pos} (hc : X.calm = true) (hn : PySem.W.nsIn X.K mainGlobals x = some (some (.ref C))) (q : PySem.W.excIn X.K C CG "ValueError.__new__" = true) (hg : Gl X x) (ha : PA X [a] ta)
  (hdb : (x == ("__debug__" : Str)) = false := by decide) (he : starEach [a] X.env = (false,eval a X.env) :: starEach [] X.env := by rfl) :
  PS X (.Raise (some (.Call (.Name x np) [a] [] cpos)) none pos) (fun _ σ H => ta σ H fun vs H1 => vs.length <= sizeLine /\ E (.ref C) none H1) := by
 intro pins s σ H D' I h
 obtain ⟨loose,mb,T⟩ := Os I.ok.mod
 have O := (PySem.W.own_of_in I.ok.mod.kin T hn q).keeps I.bk
 have O0 := O
 obtain ⟨tl,N,nm,qn,bs,hdct,sn,sub,ab,col,dd,k0,k1,k2,k3,k5,mN,hC,hN,hni,TL⟩ := (PySem.W.own_of_in I.ok.mod.kin T hn q).obj
 refine wpAny_Raise_call_subT (C := C) (nm := nm) (q := qn) (N := N) (bs := bs) (bm := tl) (hdct := hdct) (sn := sn) (sub := sub) (ab := ab) (col := col) (dd := dd) (k0 := k0) (k1 := k1) (k2 := k2) (k3 := k3) (k5 := k5) PySem.F.excBase_ValueError (mN := mN)
  (TL.hasType PySem.F.excBase_ValueError.hasBase) (I.ok.hd hc) (by rw [he]; rfl) hni (DN I hg O.bound ⟨rfl,?_⟩ hdb)
 have hp := ha cpos pins s σ H _ I h
 rw [he] at hp ⊢
 refine Calls.evalArgs_plain (wpAny_mono hp (fun us s2 ⟨vs,H1,I1,rv,hl,q1⟩ => ⟨rfl,by rw [<- rv.length]; exact hl,I1.bk _ _ hC,hN.keeps I1.bk,TL.keeps I1.bk,fun h' e hm => ?_⟩) fun _ _ y => y)
 exact D.made I1 hm q1
end
section
variable {P : Program} {w : World} {K : PySem.W.Frag} {mg : Str -> Option Value} {base : Heap}
structure AZ (P : Program) (w : World) (K : PySem.W.Frag) (mg : Str -> Option Value) (base : Heap) (n : Nat) (x : Str) (ps : List Str) (sp : Sp) : Prop where
 ex : ∃ (f : Addr) (fd : FuncData),Cw P w K mg base (CF P w) n f fd ps sp /\ mg x = some (.ref f) /\ PySem.W.keepIn K (.ref f) = true /\ Binds K fd ps []
theorem Bc {N : List Str} {qual : Str} {scope : Scope} {f : Addr} {cd : Value} {A : Around} {outer : List Env} {s : Shared} {H : Hp} {E : XK} : IsDef (BK (CF P w) P w K mg base N qual scope f cd A outer s H E) E :=
 ⟨rfl,rfl,rfl,fun e s' h => wpAny_mono h (fun _ _ z => z) fun _ _ z => z.elim⟩
theorem Df.fnE {x : Str} {st : Stmt} {N ps : List Str} {k : Nat} {sp : Sp} (F : Df K mg x st ps) (S : Ax N ps (Aq st)) (len : ∀ vs H Q E,sp vs H Q E -> vs.length = ps.length)
  (hbody : ∀ (f : Addr) (cdv : Value) (A : Around) (outer : List Env) (s : Shared) (H : Hp) (vs : List V) (Q : VK) (E : XK), AX k (A.deeper (envOfC x (Aq st) s.heap.objs.size f cdv)) -> sp vs H Q E ->
   ∃ t,PSs (BK (CF P w) P w K mg base N x (Aq st) f cdv A outer s H E) (Bv st) t /\ t { nx := fun _ H' => Q .non H',rt := Q } (start N vs) H) : AZ P w K mg base (k + 1) x ps sp := by
 obtain ⟨f,fd,hF,hm,hb⟩ := F.ex
 have kp := hF.kp
 obtain ⟨oc,od,kV,doc,pm,an,cdv,ct,osl,rfl,lk,hcd⟩ := hF.ex
 exact ⟨f,_,GT lk hcd S len fun A outer s H vs Q E hr h => hbody f cdv A outer s H vs Q E hr h,hm,kp,hb⟩
def Ot (sp : Sp) (E : XK) (t : TA) : TE := fun σ H Q => t σ H fun vs H1 => sp vs H1 Q E
theorem Ba {X : Cx} {E : XK} (D : IsDef X E) {n : Nat} {x : Str} {ps : List Str} {sp : Sp} {e : Expr} {es : List Expr} {t : TA} {p pos : Pos} (F : AZ X.prog X.w X.K X.mg X.base n x ps sp) (hr : AX n X.A) (hg : Gl X x) (ha : PA X (e :: es) t)
  (hdb : (x == ("__debug__" : Str)) = false := by decide) (he : starEach (e :: es) X.env = (false,eval e X.env) :: starEach es X.env := by rfl) (hpl : (backTo pos (starEach es X.env)).any (·.1) = false := by rfl) :
  PE X (.Call (.Name x p) (e :: es) [] pos) (Ot sp E t) := by
 obtain ⟨f,fd,F,hm,hk,hb⟩ := F.ex
 refine (IT (dvs := []) (E := E) F hr hg hm hk hb .nil D.passes ha hdb he hpl).weak fun σ H Q q => ?_
 have e : ∀ vs : List V,vs ++ [] = vs := fun vs => List.append_nil vs
 show t σ H fun vs H1 => sp (vs ++ []) H1 Q E
 simp only [e]
 exact q
end
abbrev D5 (qual : Str) (scope : Scope) (L f : Addr) (cd : Value) (cl : List (Str × Addr)) : Env := PySem.W.envX qual scope L f cd cl
def EN (P : Program) (w : World) (K : PySem.W.Frag) (mg : Str -> Option Value) (base : Heap) (N : List Str) (qual : Str) (scope : Scope) (f : Addr) (cd : Value) (cl : List (Str × Addr)) (A : Around) (outer : List Env) (s : Shared) (H : Hp) (E : XK) : Cx where
 prog := P
 w := w
 K := K
 mg := mg
 base := base
 A := A.deeper (D5 qual scope s.heap.objs.size f cd cl)
 N := N
 s₀ := s
 H₀ := H
 env := D5 qual scope s.heap.objs.size f cd cl
 outer := outer
 stack := D5 qual scope s.heap.objs.size f cd cl :: outer
 ex := []
 calm := true
 fn := fun _ => false
 pn := []
 xe := fun e s' => wpAny (model P w) (A.deeper (D5 qual scope s.heap.objs.size f cd cl)) (leaving (D5 qual scope s.heap.objs.size f cd cl) e) (fun _ s'' => CF P w outer H s E e s'') (fun e' s'' => CF P w outer H s E e' s'') s'
theorem D6 {P : Program} {w : World} {K : PySem.W.Frag} {mg : Str -> Option Value} {base : Heap} {N : List Str} {qual : Str} {scope : Scope} {f : Addr} {cd : Value} {cl : List (Str × Addr)} {A : Around} {outer : List Env} {s : Shared} {H : Hp} {E : XK} :
  IsDef (EN P w K mg base N qual scope f cd cl A outer s H E) E :=
 ⟨rfl,rfl,rfl,fun e s' h => wpAny_mono h (fun _ _ z => z) fun _ _ z => z.elim⟩
section
variable {X : Cx} {pins : List (Addr × Obj)} {σ : St} {H : Hp} {s s' : Shared} {scope : Scope} {N' : List Str} {cap : List (Option Nat)} {A : Around} {outer : List Env} {qual : Str} {f : Addr} {cd : Value} {E : XK}
theorem Ou (I : Ac X pins σ H s) (B : AM X.env.scope X.N scope N' cap) (nc : ∀ x ∈ scope.names,x.2 ≠ .cell) (hd : A.handled = none) (e0 : Cv X.prog X.w X.K X.mg X.base A outer s' H)
  (hcell : ∀ x c v,X.env.cells.lookup x = some c -> s.heap.IsCell c v -> s'.heap.IsCell c v) {h1 : Heap} {tk : Nat} (hn : h1.Ns s'.heap.objs.size fun _ => none) (hk : ∀ b o,s'.heap.get? b = some o -> h1.get? b = some o) :
  Ac (EN X.prog X.w X.K X.mg X.base N' qual scope f cd (AR X.env.cells scope.names []) A outer s' H E) [] (AJ cap σ) H { s' with heap := h1,toks := tk } := by
 have acc : ∀ x c,(AR X.env.cells scope.names []).lookup x = some c -> X.env.cells.lookup x = some c := fun x c e => (Da _ _ e).elim id fun z => nomatch z
 have noA : ∀ b : Addr,b ∉ (EN X.prog X.w X.K X.mg X.base N' qual scope f cd (AR X.env.cells scope.names []) A outer s' H E).ex := fun b z => absurd (show b ∈ ([] : List Addr) from z) (by simp)
 refine ⟨⟨e0.mod,B.kind,rfl,rfl,Nat.le_refl _,fun x y c a b => I.ok.inj x y c (acc x c a) (acc y c b),fun x hx => ?_,fun x c z _ => (nomatch (show false = true from z)),fun _ => hd,Around.frames_deeper e0.frames,.inr ⟨rfl,rfl⟩,fun b z => absurd z (noA b),e0.bs,e0.bsz,fun b _ _ => noA b,fun b z => absurd z (noA b),e0.funs,e0.frf⟩,
  rfl,e0.bare,Un.kept hk,⟨_,hn,fun i x v h1' h2 h3 => ?_⟩,fun x c h => ?_,e0.hok.fresh (Nat.le_refl _),fun x c h => I.freeC x c (acc x c h),fun p hp => absurd (show p ∈ ([] : List (Addr × Obj)) from hp) (by simp),e0.hok.kept hk,?_⟩
 ·have hx' : scope.names.lookup x = some .cell \/ scope.names.lookup x = some .free := hx
  rcases hx' with z | z
  ·exact absurd rfl (nc _ (PySem.mem_of_lookup z))
  ·have hm := PySem.mem_of_lookup z
   obtain ⟨c,hc⟩ := I.ok.has x (B.free _ hm rfl)
   exact ⟨c,Dy hc _ _ hm⟩
 ·have h2' : (AJ cap σ)[i]? = some (some v) := h2
  unfold AJ at h2'
  rw [List.getElem?_map] at h2'
  cases q : cap[i]? with
  | none => rw [q] at h2'; cases h2'
  | some o =>
   rw [q] at h2'
   cases o with
   | none => exact nomatch Option.some.inj h2'
   | some j =>
    have h2'' : (match σ[j]? with | some v => v | none => none) = some v := Option.some.inj h2'
    cases qs : σ[j]? with
    | none => rw [qs] at h2''; cases h2''
    | some v' =>
     rw [qs] at h2''
     have hs : σ[j]? = some (some v) := by rw [qs]; exact congrArg some h2''
     obtain ⟨x',e1,e2,e3,e4⟩ := B.capt i j q
     have h1'' : N'[i]? = some x := h1'
     rw [h1''] at e1; cases e1
     have hcf := B.free _ e3 rfl
     obtain ⟨m,hn,hl⟩ := I.loc
     obtain ⟨u,ru,lk⟩ := hl j x v e2 hs (hcf.elim (fun z => .inr (.inl z)) fun z => .inr (.inr z))
     refine ⟨u,ru,?_⟩
     rcases lk with ⟨lk,_⟩ | ⟨_,c,hc,ic⟩
     ·have lk' : X.env.scope.names.lookup x = some .local := lk
      have hcf' : X.env.scope.names.lookup x = some .cell \/ X.env.scope.names.lookup x = some .free := hcf
      rw [lk'] at hcf'; rcases hcf' with z | z <;> cases z
     ·exact .inr ⟨.inr (B.own _ e3),c,Dy hc _ _ e3,(hcell x c _ hc ic).keeps hk⟩
 ·obtain ⟨v,z⟩ := I.cell x c (acc x c h)
  exact ⟨v,(hcell x c v (acc x c h) z).keeps hk⟩
 ·unfold AJ
  show _ = N'.length
  rw [List.length_map]
  exact B.len
theorem Ov (I : Ac X pins σ H s) (B : AM X.env.scope X.N scope N' cap) (nc : ∀ x ∈ scope.names,x.2 ≠ .cell) (co : scope.isCoroutine = false) (gen : scope.isGenerator = false) {k : Nat} (hr : AX k A) (e0 : Cv X.prog X.w X.K X.mg X.base A outer s' H)
  (hcell : ∀ x c v,X.env.cells.lookup x = some c -> s.heap.IsCell c v -> s'.heap.IsCell c v) {params : Arguments} {body : Expr} {pm ctv : Value} {c' : Addr} {te : TE} {Q : VK}
  (ho : s'.heap.get? f = some (PySem.W.kla_obj "<lambda>" qual params body scope (AR X.env.cells scope.names []) pm c' ctv)) (hcd : s'.heap.CodeRec (.ref c') qual)
  (hb : bindArgs (PySem.W.kla_fn "<lambda>" qual params body scope (AR X.env.cells scope.names []) pm (.ref c') ctv) ⟨[],[]⟩ = pure [])
  (hbody : PE (EN X.prog X.w X.K X.mg X.base N' qual scope f (.ref c') (AR X.env.cells scope.names []) A outer s' H E) body te) (q : te (AJ cap σ) H Q) :
  codeAny (model X.prog X.w) A (.call (.ref f) ⟨[],[]⟩) (CR (CF X.prog X.w) outer X.prog X.w H s' Q E) s' := by
 refine PySem.W.kla_callFunE hr.depth ho rfl co gen rfl hcd ?_
 rw [hb]
 refine wpAny_pure (wpAny_newFunctionEnv nc (fun x hx => nomatch hx) (fun h1 hns hsb => ?_) B.kind)
 have hk : ∀ b o,s'.heap.get? b = some o -> h1.get? b = some o := fun b o e => hsb.extBut b o (Nat.ne_of_lt (Heap.lt_size e)) (Heap.get?_push_of_some _ e)
 have hl : s'.heap.NoLimit := e0.mod.nolimit.keeps fun b o e => (e0.bs b o e).1
 refine ⟨hl.keeps hk,?_⟩
 show codeAny _ _ (.expr body (D5 qual scope s'.heap.objs.size f (.ref c') (AR X.env.cells scope.names []))) _ _
 refine PySem.W.kla_codeExpr ?_
 have J := Ou (tk := s'.toks + ([] : List (Str × Value)).length) (qual := qual) (f := f) (cd := .ref c') (E := E) I B nc hr.hd e0 hcell hns hk
 refine wpAny_mono (hbody [] _ (AJ cap σ) H Q J q) (fun v s'' z => ?_) fun e s'' z => z
 obtain ⟨v',H',J',rv,qv⟩ := z
 exact ⟨v',H',J'.os,J'.bare,J'.base,J'.hok,rv,qv⟩
end
end L2
end
section
namespace L2
open PySem PySem.Spec PyProof.Rows
variable {M : Model} {E : Value -> Shared -> Prop} {k : Nat}
abbrev Cx.hot (X : Cx) (A : Around) : Cx := { X with A := A,calm := false,xe := fun _ _ => False }
section
variable {X : Cx} {pins : List (Addr × Obj)} {σ : St} {H H' : Hp} {s s' : Shared}
theorem Ac.hot (I : Ac X pins σ H s) {A : Around} (hf : A.frames = some X.stack) : Ac (X.hot A) pins σ H s :=
 ⟨⟨I.ok.mod,I.ok.kind,I.ok.glob,I.ok.blt,I.ok.above,I.ok.inj,I.ok.has,I.ok.cab,fun z => (nomatch (show false = true from z)),hf,I.ok.stk,I.ok.exf,I.ok.bs,I.ok.bsz,I.ok.noex,I.ok.exfs,I.ok.funs,I.ok.frf⟩,I.os,I.bare,I.base,I.loc,I.cell,I.free,I.freeC,I.pin,I.hok,I.len⟩
theorem Ac.cool {A : Around} (ok : X.Ok) (I : Ac (X.hot A) pins σ H s) : Ac X pins σ H s := ⟨ok,I.os,I.bare,I.base,I.loc,I.cell,I.free,I.freeC,I.pin,I.hok,I.len⟩
theorem Ka {outer : List Env} {B h' : Heap} (u : Un (AE outer) [] H H' s.heap s'.heap) (kB : ∀ b o,s.heap.get? b = some o -> H b = none -> b ∉ AE outer -> B.get? b = some o)
  (tB : ∀ b o,s.heap.get? b = some o -> b ∉ AE outer -> ∃ o',B.get? b = some o') (ff : s'.heap.FunFrames B outer) (st : B.StaysIn h') (up : s'.heap.UpToSlots h') : Un (AE outer) [] H H' s.heap h' := by
 have frn : ∀ b,b ∈ AE outer -> ∀ o,s'.heap.get? b = some o -> ∀ vs,o.data ≠ .fields vs := fun b hb o eo => by
  obtain ⟨_,o',ho',hd⟩ := ff.mem hb
  rw [eo] at ho'
  cases ho'
  exact hd
 refine ⟨fun b o e n hb _ => st b o (kB b o e n hb),fun b o e n hb hx => ?_,u.free,fun b o e hx => ?_,u.tups,u.frzs,u.tbls⟩
 ·obtain ⟨s1,e1⟩ := u.slot b o e n hb hx
  obtain ⟨s2,e2⟩ := up b _ e1 (frn b hb _ e1)
  exact ⟨s2,e2⟩
 ·by_cases hb : b ∈ AE outer
  ·obtain ⟨o1,e1⟩ := u.there b o e hx
   obtain ⟨s2,e2⟩ := up b _ e1 (frn b hb _ e1)
   exact ⟨_,e2⟩
  ·obtain ⟨o1,e1⟩ := tB b o e hb
   exact ⟨o1,st b o1 e1⟩
theorem Ac.track (I : Ac X pins σ H s) {a : Addr} {o : HO} (na : a ≠ X.env.locals) (nc : ∀ x c,X.env.cells.lookup x = some c -> c ≠ a) (np : ∀ p ∈ X.pn ++ pins,p.1 ≠ a) (n0 : X.s₀.heap.get? a = none) (hn : H a = none)
  (ho : ObjOk X.prog X.w (upd H a o) s.heap a o) : Ac X pins σ (upd H a o) s := by
 have ne : ∀ b u,H b = some u -> b ≠ a := fun b u e z => by rw [z,hn] at e; cases e
 refine ⟨I.ok,I.os,I.bare,⟨I.base.keep,I.base.slot,fun b ob e n hx => ?_,I.base.there,fun b xs q => ?_,fun b ob xs q => ?_,fun b ps q => ?_⟩,I.loc,I.cell,?_,fun x c e => ?_,fun p hp => ?_,fun b ob e => ?_,I.len⟩
 ·rw [Ap (fun z => by rw [z,n0] at e; cases e)]; exact I.base.free b ob e n hx
 ·have := I.base.tups b xs q
  rw [Ap (ne b _ this)]; exact this
 ·have := I.base.frzs b ob xs q
  rw [Ap (ne b _ this)]; exact this
 ·obtain ⟨m,e⟩ := I.base.tbls b ps q
  exact ⟨m,by rw [Ap (ne b _ e)]; exact e⟩
 ·rw [Ap (Ne.symm na)]; exact I.free
 ·rw [Ap (nc x c e)]; exact I.freeC x c e
 ·obtain ⟨e,n,r⟩ := I.pin p hp
  exact ⟨e,by rw [Ap (np p hp)]; exact n,r⟩
 ·by_cases z : b = a
  ·subst z
   rw [Ai] at e
   cases e
   exact ho
  ·rw [Ap z] at e
   refine (I.hok b ob e).stay (fun _ _ _ q => q) (fun c q => ?_) fun c xs q => ?_
   ·rw [Ap (ne c _ q)]; exact q
   ·rw [Ap (ne c _ q)]; exact q
theorem Ow {A : Around} {i : Nat} {x : Str} {pos : Pos} {Q : Unit -> Shared -> Prop} (I : Ac X pins σ H s) (hN : X.N.Nodup) (hi : X.N[i]? = some x) (hx : X.env.kindOf x = some .local)
  (h : ∀ s',Ac X pins (σ.set i none) H s' -> Q () s') : wpAny M A (do bindName X.env x .none; unbindBehindTheSuite X.env x pos) Q E s := by
 obtain ⟨m,hn,hl⟩ := id I.loc
 have hcls : (X.env.scope.kind == .class || (X.env.scope.kind == .module && X.env.locals != X.env.globals)) = false := by rw [I.ok.kind]; rfl
 have cne := I.cne
 refine wpAny_nameGoes_keeps hx hn hcls fun h' v hn' hs => ?_
 obtain ⟨oL,_,_,hoL,_⟩ := id hn
 have nl : ∀ b o,X.s₀.heap.get? b = some o -> b ≠ X.env.locals := fun b o e => Nat.ne_of_lt (Nat.lt_of_lt_of_le (Heap.lt_size e) I.ok.above)
 refine h _ ⟨I.ok,I.os,I.bare,⟨fun b o e n hb hx => (hs.2 b (nl b o e)).trans (I.base.keep b o e n hb hx),fun b o e n hb hx => ?_,I.base.free,fun b o e hx => ?_,I.base.tups,I.base.frzs,I.base.tbls⟩,⟨_,hn',fun j y v' e1 e2 e3 => ?_⟩,fun y c e => ?_,I.free,I.freeC,fun p hp => ?_,fun b ob e => ?_,by simpa using I.len⟩
 ·obtain ⟨sl,e1⟩ := I.base.slot b o e n hb hx
  exact ⟨sl,(hs.2 b (nl b o e)).trans e1⟩
 ·obtain ⟨o',e1⟩ := I.base.there b o e hx
  exact ⟨o',(hs.2 b (nl b o e)).trans e1⟩
 ·have hj : j ≠ i := fun z => by
   subst z
   have hiσ : j < σ.length := by rw [I.len]; exact (List.getElem?_eq_some_iff.mp hi).1
   rw [List.getElem?_set_self hiσ] at e2
   cases e2
  rw [List.getElem?_set_ne (Ne.symm hj)] at e2
  obtain ⟨u',r',q⟩ := hl j y v' e1 e2 e3
  refine ⟨u',r',?_⟩
  rcases q with ⟨k,e⟩ | ⟨k,c,e,z⟩
  ·refine .inl ⟨k,?_⟩
   have : y ≠ x := fun e => hj (GI hN e1 (e ▸ hi))
   simp [this,e]
  ·exact .inr ⟨k,c,e,z.sameBut hs (cne y c e)⟩
 ·obtain ⟨w',z⟩ := I.cell y c e
  exact ⟨w',z.sameBut hs (cne y c e)⟩
 ·obtain ⟨e,n,ne,nf,d⟩ := I.pin p hp
  exact ⟨(hs.2 p.1 ne).trans e,n,ne,nf,d⟩
 ·refine (I.hok b ob e).stay (fun c w' hc q => (hs.2 c ?_).trans q) (fun _ q => q) fun _ _ q => q
  rintro rfl
  rcases hc with hc | hc
  ·rw [<- hc,I.free] at e; cases e
  ·rw [I.free] at hc; cases hc
end
theorem Ox {A : Around} {s : Shared} {K : PySem.W.Frag} {e C D : Addr} {Q : Bool -> Shared -> Prop} (X : K.In s.heap) (I : ExcAt s.heap e C) (hM : PySem.W.mroIn K C (.ref D) = some true)
  (hB : PySem.W.mroIn K D (.type "BaseException") = some true) (hT : PySem.W.typeIn K (.ref D) = some (.type "type")) (hq : Q true s) : wpAny M A (excMatches (.ref e) (.ref D)) Q E s := by
 have L0 := I.type (M := M)
 have L1 := PySem.W.looks_mroIn (M := M) X hM
 have L2 := PySem.W.looks_mroIn (M := M) X hB
 have L3 := PySem.W.looks_typeIn (M := M) X hT
 have LI : PySem.W.Looks M s.heap (isType (.ref D)) true := by
  unfold PySem.W.mroIn at hB
  obtain ⟨cd,hc,_⟩ := Option.bind_eq_some_iff.mp hB
  unfold PySem.W.clsIn at hc
  split at hc
  ·rename_i c' d' cd' sl' ho
   intro A' Q' E' s' k q
   unfold isType loadHead
   exact wpAny_bind (wpAny_loadPart (k _ _ (X _ _ ho)) (wpAny_pure q))
  ·cases hc
 have LX : PySem.W.Looks M s.heap (isExcClass (.ref D)) true := LI.andThen L2
 obtain ⟨hh,g,d,tk,os⟩ := s
 unfold excMatches isInstance
 refine wpAny_bind (wpAny_bind (L3.at ?_))
 rw [tc_notTuple]
 refine wpAny_pure ?_
 simp only [Bool.false_eq_true,if_false]
 refine wpAny_bind (wpAny_pure ?_)
 simp only [List.forIn_cons,List.forIn_nil]
 refine wpAny_bind (wpAny_bind (wpAny_bind (LX.at ?_)))
 simp only [Bool.not_true,Bool.false_eq_true,if_false]
 refine wpAny_pure (wpAny_pure ?_)
 refine wpAny_bind (L0.at ?_)
 refine wpAny_bind (wpAny_bind (wpAny_bind (L1.at ?_)))
 simp only [if_true]
 exact wpAny_pure (wpAny_pure (wpAny_pure hq))
structure RoomQ (k : Nat) (A : Around) : Prop where
 dp : A.depth + 3 * k + 5 < recursionLimit
 un : A.units + 16 * k + 200 < cLine
 gd : A.guards = some []
theorem AX.q {A : Around} (r : AX k A) : RoomQ k A := ⟨r.dp,r.un,r.gd⟩
theorem RoomQ.mark {A : Around} (r : RoomQ k A) (h : Option Value) : RoomQ k (A.mark h) := ⟨r.dp,r.un,r.gd⟩
theorem RoomQ.room {A : Around} (r : RoomQ k A) : AX k { A with handled := none } := ⟨rfl,r.dp,r.un,r.gd⟩
theorem RoomQ.mono {j : Nat} {A : Around} (r : RoomQ k A) (h : j <= k) : RoomQ j A := ⟨by have := r.dp; omega,by have := r.un; omega,r.gd⟩
theorem Kb {P : Program} {w : World} {K : PySem.W.Frag} {mg : Str -> Option Value} {base : Heap} {f : Addr} {name qual : Str} {params : Arguments} {body : List Stmt} {scope : Scope} {dV kV doc pm cdv ct oc : Value} {an od : Option Addr}
  {osl : Array (Option Value)} {N ps : List Str} (lk : K.lookup f = some ⟨oc,od,.func (PySem.W.fnOf name qual params body scope dV kV doc pm an cdv ct),osl⟩) (hcd : PySem.W.codeIn K cdv qual = true) (S : Ax N ps scope)
  {A : Around} {outer : List Env} {s : Shared} {H : Hp} {args : Args} {us : List Value} {vs : List V} {R : Result -> Shared -> Prop} (hr : RoomQ (k + 1) A) (e0 : Cv P w K mg base A outer s H)
  (hb : BindsTo s (PySem.W.fnOf name qual params body scope dV kV doc pm an cdv ct) args (ps.zip us)) (r : At vs us) (hl : vs.length = ps.length)
  (hbody : ∀ s1, Ac (BK CX0 P w K mg base N qual scope f cdv { A with handled := none } outer s H E0) [] (start N vs) H s1 -> wpAny (model P w) (A.deeper (envOfC qual scope s.heap.objs.size f cdv)) (execs body (envOfC qual scope s.heap.objs.size f cdv))
   (fun fl s' => match fl with | .ret u => R (.ok (.ret u)) s' | .next => R (.ok (.ret .none)) s' | _ => False) (fun _ _ => False) s1) :
  codeAny (model P w) A (.call (.ref f) args) R s := by
 have KX : K.In s.heap := e0.mod.kin.keeps fun b o e => (e0.bs b o e).1
 have lim : s.heap.NoLimit := e0.mod.nolimit.keeps fun b o e => (e0.bs b o e).1
 have hkind : ∀ y ∈ ps.zip us,scope.names.lookup y.1 = some .local \/ (scope.names.lookup y.1 = some .cell /\ ((cellsFrom (s.heap.objs.size + 1) scope.names []).lookup y.1).isSome = true) := fun ⟨n,v⟩ hy => by
  rcases S.par n (List.of_mem_zip hy).1 with q | q
  ·exact .inl q
  ·exact .inr ⟨q,PySem.W.cellsFrom_some _ _ _ (.inl q)⟩
 refine codeAny_call_function hr.room.depth (KX _ _ lk) rfl S.co S.gen rfl (PySem.W.codeRec_of KX hcd) (hb _ _ _ _ ?_)
 refine wpAny_newFunctionEnv_cells S.kind hkind fun env he s1 x => ?_
 subst he
 refine ⟨lim.keeps x.toInCall.keep,codeAny_func ?_⟩
 have e1 : Cv P w K mg base { A with handled := none } outer s H := ⟨e0.frames,e0.mod,e0.bs,e0.bsz,e0.funs,e0.frf,e0.hok,e0.bare⟩
 have I : Ac (BK CX0 P w K mg base N qual scope f cdv { A with handled := none } outer s H E0) [] (start N vs) H s1 := I9 S rfl e1 hl r x
 refine wpAny_mono (hbody s1 I) (fun fl s' hs => ?_) fun e s' hs => hs.elim
 cases fl with
 | ret u => exact hs
 | next => exact hs
 | brk => exact hs.elim
 | cont => exact hs.elim
end L2
end
section
namespace L2
open PySem PySem.Spec PyProof.Rows
variable {ps : List Str} {k : Nat} {sp : Sp} {p pos : Pos}
def FN (Q : VK) : VK := fun v H1 => ∀ t,H1 t = none -> Q (.ref t) (upd H1 t (.tup [.str "told",v]))
def EO (W : Addr -> Str -> Prop) (Q : VK) : XK := fun c _ H2 => ∃ C word,c = .ref C /\ W C word /\ ∀ H3 t,(∀ b o,H2 b = some o -> H3 b = some o) -> H3 t = some (.tup [.str word]) -> Q (.ref t) H3
def D7 (W : Addr -> Str -> Prop) : Sp := fun vs H Q _ => match vs with
 | [.ref e] => ∃ C word,H e = some (D4 e C) /\ W C word /\ ∀ H3 t,(∀ b o,H b = some o -> H3 b = some o) -> H3 t = some (.tup [.str word]) -> Q (.ref t) H3
 | _ => False
def DH (P : Program) (w : World) (K : PySem.W.Frag) (mg : Str -> Option Value) (base : Heap) (k : Nat) (W : Addr -> Str -> Prop) (outer : List Env) (s : Shared) : Sp := fun vs H Q _ => match vs with
 | [.ref f] => PySem.W.FnAt f s.heap /\ H f = none /\ f ∉ AE outer /\ ∀ (A' : Around) (outer' : List Env) (s' : Shared), AX k A' -> Cv P w K mg base A' outer' s' H -> Un (AE outer) [] H H s.heap s'.heap ->
   codeAny (model P w) A' (.call (.ref f) ⟨[],[]⟩) (CR (CF P w) outer' P w H s' (FN Q) (EO W Q)) s'
 | _ => False
section
variable {P : Program} {w : World} {K : PySem.W.Frag} {mg : Str -> Option Value} {base : Heap}
structure D8 (P : Program) (w : World) (K : PySem.W.Frag) (mg : Str -> Option Value) (base : Heap) (n : Nat) (x : Str) (ps : List Str) (sp : Sp) : Prop where
 ex : ∃ (f : Addr) (fd : FuncData),(∀ (A : Around) (outer : List Env) (s : Shared) (H : Hp) (args : Args) (us : List Value) (vs : List V) (Q : VK),RoomQ n A -> Cv P w K mg base A outer s H -> BindsTo s fd args (ps.zip us) -> At vs us -> sp vs H Q E0 ->
  codeAny (model P w) A (.call (.ref f) args) (CR CX0 outer P w H s Q E0) s) /\ (∀ vs H Q E,sp vs H Q E -> vs.length = ps.length) /\ mg x = some (.ref f) /\ PySem.W.keepIn K (.ref f) = true /\ Binds K fd ps []
structure FO (P : Program) (w : World) (K : PySem.W.Frag) (mg : Str -> Option Value) (base : Heap) (n : Nat) (x : Str) (ps : List Str) (sp : List Env -> Shared -> Sp) : Prop where
 ex : ∃ (f : Addr) (fd : FuncData),(∀ (A : Around) (outer : List Env) (s : Shared) (H : Hp) (args : Args) (us : List Value) (vs : List V) (Q : VK),AX n A -> Cv P w K mg base A outer s H -> BindsTo s fd args (ps.zip us) -> At vs us -> sp outer s vs H Q E0 ->
  codeAny (model P w) A (.call (.ref f) args) (CR CX0 outer P w H s Q E0) s) /\ mg x = some (.ref f) /\ PySem.W.keepIn K (.ref f) = true /\ Binds K fd ps []
theorem Df.fnQ {x : Str} {st : Stmt} {N : List Str} (F : Df K mg x st ps) (S : Ax N ps (Aq st)) (len : ∀ vs H Q E,sp vs H Q E -> vs.length = ps.length)
  (hbody : ∀ (f : Addr) (cdv : Value) (A : Around) (outer : List Env) (s : Shared) (H : Hp) (vs : List V) (Q : VK), RoomQ k (A.deeper (envOfC x (Aq st) s.heap.objs.size f cdv)) -> sp vs H Q E0 ->
   ∃ t,PSs ((BK CX0 P w K mg base N x (Aq st) f cdv { A with handled := none } outer s H E0).hot (A.deeper (envOfC x (Aq st) s.heap.objs.size f cdv))) (Bv st) t /\ t { nx := fun _ H' => Q .non H',rt := Q } (start N vs) H) :
  D8 P w K mg base (k + 1) x ps sp := by
 obtain ⟨f,fd,hF,hm,hb⟩ := F.ex
 have kp := hF.kp
 obtain ⟨oc,od,kV,doc,pm,an,cdv,ct,osl,rfl,lk,hcd⟩ := hF.ex
 refine ⟨f,_,fun A outer s H args us vs Q hr e0 hbt r hsp => ?_,len,hm,kp,hb⟩
 refine Kb lk hcd S hr e0 hbt r (len _ _ _ _ hsp) fun s1 I => ?_
 have hr' : RoomQ k (A.deeper (envOfC x (Aq st) s.heap.objs.size f cdv)) := have z := hr.room.deeper (envOfC x (Aq st) s.heap.objs.size f cdv); ⟨z.dp,z.un,z.gd⟩
 obtain ⟨t,ht,hq⟩ := hbody f cdv A outer s H vs Q hr' hsp
 refine wpAny_mono (ht [] s1 (start N vs) H _ (I.hot (Around.frames_deeper e0.frames)) hq) (fun fl s' hs => ?_) fun e s' hs => hs
 cases fl with
 | ret u =>
  obtain ⟨v,σ',H',J,rv,q⟩ := hs
  exact ⟨v,H',J.os,J.bare,J.base,J.hok,rv,q⟩
 | next =>
  obtain ⟨σ',H',J,q⟩ := hs
  exact ⟨.non,H',J.os,J.bare,J.base,J.hok,rfl,q⟩
 | brk => obtain ⟨_,_,_,q⟩ := hs; exact q
 | cont => obtain ⟨_,_,_,q⟩ := hs; exact q
theorem Oy {X : Cx} {n : Nat} {x : Str} {e : Expr} {es : List Expr} {t : TA} (F : D8 X.prog X.w X.K X.mg X.base n x ps sp) (hr : RoomQ n X.A) (hg : Gl X x) (ha : PA X (e :: es) t)
  (hdb : (x == ("__debug__" : Str)) = false := by decide) (he : starEach (e :: es) X.env = (false,eval e X.env) :: starEach es X.env := by rfl) (hpl : (backTo pos (starEach es X.env)).any (·.1) = false := by rfl) :
  PE X (.Call (.Name x p) (e :: es) [] pos) (JG sp t) := by
 obtain ⟨f,fd,F,hlen,hm,hk,hb⟩ := F.ex
 intro pins s σ H Q I h
 refine wpAny_Call_Name_kw (DN I hg hm ?_ hdb)
 refine PySem.W.callWith_K (h₀ := X.base) I.ok.mod.kin hk (Ar (ha pos pins s σ H _ I h) fun us s1 ⟨vs,H1,I1,r,q⟩ => ⟨I1.kIn,?_⟩) he hpl
 have hl : us.length = ps.length := by rw [<- r.length]; exact hlen _ _ _ _ q
 have hbb := hb s1 us I1.kIn (by rw [List.append_nil]; exact hl)
 rw [List.append_nil] at hbb
 refine wpAny_call (codeAny_mono (F X.A X.stack s1 H1 ⟨us,[]⟩ us vs Q hr I1.env0 hbb r q) fun r s' hq => ?_)
 cases r with
 | error e => exact hq.elim
 | ok fl =>
  cases fl with
  | ret u => exact I1.after hq
  | next => exact False.elim hq
  | brk => exact False.elim hq
  | cont => exact False.elim hq
end
section
variable {X : Cx} {H : Hp} {f : Addr} {Q : VK} {W : Addr -> Str -> Prop}
theorem Oz {W0 : Value -> Shared -> Prop} {x : Str} (hN : X.N[0]? = some x) (hv : Eu X.env.scope x) (hdb : (x == ("__debug__" : Str)) = false) (hcd : (x == ("__classdict__" : Str)) = false) (hex : X.ex = []) (h0 : X.H₀ = H)
  (hr : AX k X.A) (hs : DH X.prog X.w X.K X.mg X.base k W X.outer X.s₀ [.ref f] H Q E0)
  (hW : ∀ pins σ sc v s',Ac X pins σ H sc -> CF X.prog X.w X.stack H sc (EO W Q) v s' -> W0 v s') :
  PE (X.wish W0) (.Call (.Name x p) [] [] pos) (fun σ H' Q' => σ[0]? = some (some (.ref f)) /\ H' = H /\ ∀ v H2,FN Q v H2 -> Q' v H2) := by
 intro pins s σ H' Q' I ⟨hσ,e,hq⟩
 subst e
 obtain ⟨hf,hn,hfr,run⟩ := hs
 refine wpAny_Call_Name_kw (Ar ((GK (X := X.wish W0) (i := 0) hN hv hdb hcd) pins s σ H' (fun v H2 => v = .ref f /\ H2 = H') I ?_) fun u s2 ⟨v,H2,I2,r,q⟩ => ?_)
 ·exact ⟨.ref f,hσ,rfl,rfl⟩
 obtain ⟨rfl,rfl⟩ := q
 have hu : u = .ref f := r
 subst hu
 have I3 : Ac X pins σ H2 s2 := I2.unwish
 have un : Un (AE X.outer) [] H2 H2 X.s₀.heap s2.heap := by
  have := I3.base
  rw [hex,h0] at this
  exact this
 obtain ⟨oc,od,fd,sl,ho⟩ := hf
 have ho2 := un.keep f _ ho hn hfr (by simp)
 refine PySem.W.callWith_F0 ⟨oc,od,fd,sl,ho2⟩ ?_
 refine wpAny_call (codeAny_mono (run X.A X.stack s2 hr I3.env0 un) fun r s' hc => ?_)
 cases r with
 | error e => exact hW pins σ s2 e s' I3 hc
 | ok fl =>
  cases fl with
  | ret u =>
   obtain ⟨v,H3,J,rv,qv⟩ := I2.after hc
   exact ⟨v,H3,J,rv,hq v H3 qv⟩
  | next => exact False.elim hc
  | brk => exact False.elim hc
  | cont => exact False.elim hc
end
end L2
end
section
namespace L2
open PySem PySem.Spec PyProof.Rows
abbrev Kc (wn : Str) (i1 i2 : Nat) (p1 p2 p3 p4 p5 p6 p7 p8 p9 p10 p11 p12 : Pos) : Stmt :=
 .Try [.Return (some (.Tuple [.Constant (.str "told") i1 p1,.Call (.Name "_law_call" p2) [] [] p3] i2 p4)) p5]
  [.ExceptHandler (some (.Name "MainError" p6)) (some "_law_e") [.Return (some (.Call (.Name wn p7) [.Name "_law_e" p8] [] p9)) p10] p11] [] [] p12
section
variable {X : Cx} {H : Hp} {f M : Addr} {Q : VK} {W : Addr -> Str -> Prop} {s1 : Shared}
theorem OA {wn : Str} {k n : Nat} {i1 i2 : Nat} {p1 p2 p3 p4 p5 p6 p7 p8 p9 p10 p11 p12 : Pos} (stk : X.stack = X.env :: X.outer) (fr : X.env.frame = some X.env.locals) (hex : X.ex = []) (hpn : X.pn = []) (hc : X.calm = true) (h0 : X.H₀ = H) (hN : X.N = [("_law_call" : Str),("_law_e" : Str)])
  (k0 : X.env.scope.names.lookup ("_law_call" : Str) = some .local) (k1 : X.env.scope.names.lookup ("_law_e" : Str) = some .local) (gM : Gl X "MainError") (gw : Gl X wn) (hM : X.mg "MainError" = some (.ref M))
  (hB : PySem.W.mroIn X.K M (.type "BaseException") = some true) (hT : PySem.W.typeIn X.K (.ref M) = some (.type "type")) (hWM : ∀ C w,W C w -> PySem.W.mroIn X.K C (.ref M) = some true) (Dw : D8 X.prog X.w X.K X.mg X.base n wn ["_law_e"] (D7 W))
  (hdb : (wn == Str.ofString "__debug__") = false) (hr : AX k X.A) (hn : n <= k) (hs : DH X.prog X.w X.K X.mg X.base k W X.outer X.s₀ [.ref f] H Q E0) (I : Ac X [] [some (.ref f),none] H s1) :
  wpAny (model X.prog X.w) X.A (execs [Kc wn i1 i2 p1 p2 p3 p4 p5 p6 p7 p8 p9 p10 p11 p12] X.env) (fun fl s' => match fl with | .ret u => ∃ v σ H',Ac X [] σ H' s' /\ Aw v u /\ Q v H' | _ => False) (fun _ _ => False) s1 := by
 have hfr : X.A.frames = some (X.env :: X.outer) := by rw [<- stk]; exact I.ok.frames
 refine wpAny_execs_cons (wpAny_Try_except ?_)
 have hbody : PSs (X.wish fun v s' => ∃ pins σ sc,Ac X pins σ H sc /\ CF X.prog X.w X.stack H sc (EO W Q) v s') [.Return (some (.Tuple [.Constant (.str "told") i1 p1,.Call (.Name "_law_call" p2) [] [] p3] i2 p4)) p5] _ :=
  Ao (Au (A9 (Bg AK (Bg (Oz (k := k) (by rw [hN]; rfl) (.inl k0) (by decide) (by decide) hex h0 hr hs fun pins σ sc v s' a b => ⟨pins,σ,sc,a,b⟩) BJ))))
 refine wpAny_mono (hbody [] s1 [some (.ref f),none] H { nx := fun _ _ => False,rt := Q } (I.wish _) ?_) (fun fl s' z => ?_) fun v s' z => ?_
 ·exact ⟨rfl,rfl,fun v H2 hq p hp => hq p hp⟩
 ·cases fl with
  | ret u =>
   obtain ⟨v,σ',H',J,rv,q⟩ := z
   exact ⟨v,σ',H',J.unwish,rv,q⟩
  | next => obtain ⟨_,_,_,q⟩ := z; exact q.elim
  | brk => obtain ⟨_,_,_,q⟩ := z; exact q.elim
  | cont => obtain ⟨_,_,_,q⟩ := z; exact q.elim
 obtain ⟨pins,σ,sc,Ic0,C,a,H2,rfl,x,C',word,hC',hw,hq⟩ := z
 cases hC'
 have Ic : Ac X [] σ H sc := Ic0.pins_of fun p hp => absurd hp (by simp)
 obtain ⟨B,t,fl,kB,tB,hHB⟩ := x.fly
 have ff := fl.2.2.1
 have nBa : B.get? a = none := fl.2.1
 have fl0 := fl
 rw [stk] at fl0
 refine wpAny_looks_onW hfr fr fl0 fun h4 held4 up4 => ?_
 refine wpAny_landsW held4 fun h5 fl5 up5 => ?_
 have up := up4.trans up5
 have I5 : Ac X [] σ H2 { s' with heap := h5 } := Ic.call' (s' := { s' with heap := h5 }) (ch := []) x.os (Ka x.un kB tB ff fl5.1 up) (hHB.kept fl5.1) x.bare fun b z => absurd z (by simp)
 have hA : (X.A.mark (some (.ref a))).frames = some X.stack := I.ok.frames
 have I5h := I5.hot (A := X.A.mark (some (.ref a))) hA
 refine wpAny_handleBy_cons (codeAny_handlers_test ?_) (by intro q; cases q)
 refine DN (X := X.hot (X.A.mark (some (.ref a)))) I5h gM hM ?_
 have at5 : ExcAt h5 a C := by
  obtain ⟨oe,vs,h1,h2,_⟩ := fl5.first
  exact ⟨oe,h1,h2⟩
 refine Ox I5.kIn at5 (hWM C word hw) hB hT ?_
 refine codeAny_handlers_suite_as ?_
 refine lands_againW fl5 fun h6 fl6 up6 => ?_
 have I6 : Ac X [] σ H2 { s' with heap := h6 } := Ic.call' (s' := { s' with heap := h6 }) (ch := []) x.os (Ka x.un kB tB ff fl6.1 (up.trans up6)) (hHB.kept fl6.1) x.bare fun b z => absurd z (by simp)
 obtain ⟨oe,vs,he1,he2,he3,_⟩ := fl6.first
 have nH2 : H2 a = none := by
  cases q : H2 a with
  | none => rfl
  | some o =>
   obtain ⟨u,hu⟩ := ObjOk.there (hHB a o q)
   rw [nBa] at hu; cases hu
 have old : ∀ b o,sc.heap.get? b = some o -> H b = none -> b ∉ AE X.stack -> b ≠ a := fun b o e n hb z => by
  have := kB b o e n hb
  rw [z,nBa] at this; cases this
 have frA : a ∉ AE X.stack := fun z => by
  have f6 := fl6.2.2.1
  rw [<- stk] at f6
  obtain ⟨_,o',ho',hd⟩ := f6.mem z
  rw [he1] at ho'
  cases ho'
  exact hd vs he3
 have na : a ≠ X.env.locals := fun z => frA (by rw [stk,z]; exact List.mem_filterMap.mpr ⟨X.env,.head _,fr⟩)
 have I7 : Ac X [] σ (upd H2 a (D4 a C)) { s' with heap := h6 } := by
  refine I6.track na (fun y c e z => ?_) (fun p hp z => ?_) ?_ nH2 ⟨⟨oe,he1,he2⟩,⟨oe,he1⟩,fun h1 h2 ⟨o,e1,e2⟩ k => ⟨o,k o e1,e2⟩⟩
  ·obtain ⟨v,hv⟩ := Ic.cell y c e
   obtain ⟨o,ho,hd⟩ := hv
   refine old c o ho (Ic.freeC y c e) (fun hf => ?_) z
   rcases List.mem_cons.mp (Ic.stkSub c hf) with q | q
   ·exact Ic.cne y c e q
   ·exact absurd q (z ▸ fun q => frA (by rw [stk]; obtain ⟨y',hy,hf'⟩ := List.mem_filterMap.mp q; exact List.mem_filterMap.mpr ⟨y',.tail _ hy,hf'⟩))
  ·rw [hpn] at hp; exact absurd hp (by simp)
  ·cases q : X.s₀.heap.get? a with
   | none => rfl
   | some o =>
    exfalso
    obtain ⟨o1,e1⟩ := Ic.base.there a o q (by rw [hex]; simp)
    obtain ⟨o2,e2⟩ := tB a o1 e1 frA
    rw [nBa] at e2; cases e2
 have hN2 : X.N.Nodup := by rw [hN]; decide
 have hi : X.N[1]? = some ("_law_e" : Str) := by rw [hN]; rfl
 have I7h := I7.hot (A := X.A.mark (some (.ref a))) hA
 refine Ew (X := X.hot (X.A.mark (some (.ref a)))) (v := .ref a) I7h hN2 hi (.inl k1) rfl (fun s8 I8 => ?_) (.inr k1)
 have hsuite : PSs (X.hot (X.A.mark (some (.ref a)))) [.Return (some (.Call (.Name wn p7) [.Name "_law_e" p8] [] p9)) p10] _ :=
  Ao (Au (Oy (hdb := hdb) (X := X.hot (X.A.mark (some (.ref a)))) Dw ((hr.q.mono hn).mark _) gw (Bg (GK (i := 1) hi (.inl k1) (by decide) (by decide)) BJ)))
 have hσl : 1 < σ.length := by rw [Ic.len,hN]; decide
 refine wpAny_mono (hsuite [] s8 (σ.set 1 (some (.ref a))) (upd H2 a (D4 a C)) { nx := fun _ _ => False,rt := Q } I8 ?_) (fun fl s9 z => ?_) fun _ _ z => z.elim
 ·refine ⟨.ref a,List.getElem?_set_self hσl,C,word,Ai,hw,fun H3 t3 e3 h3 => ?_⟩
  exact hq H3 t3 (fun b o e => e3 b o (by rw [Ap (fun z => by rw [z,nH2] at e; cases e)]; exact e)) h3
 ·cases fl with
  | ret u =>
   obtain ⟨v,σ',H',J,rv,q⟩ := z
   have J' : Ac X [] σ' H' s9 := Ac.cool I.ok J
   exact Ow J' hN2 hi k1 fun s10 I10 => ⟨v,_,H',I10,rv,q⟩
  | next => obtain ⟨_,_,_,q⟩ := z; exact q.elim
  | brk => obtain ⟨_,_,_,q⟩ := z; exact q.elim
  | cont => obtain ⟨_,_,_,q⟩ := z; exact q.elim
end
theorem OB {wn : Str} {P : Program} {w : World} {K : PySem.W.Frag} {mg : Str -> Option Value} {base : Heap} {st : Stmt} {k n : Nat} {M : Addr} {W : Addr -> Str -> Prop} {i1 i2 : Nat} {p1 p2 p3 p4 p5 p6 p7 p8 p9 p10 p11 p12 : Pos}
  (F : Df K mg "_law_said" st ["_law_call"]) (S : Ax ["_law_call","_law_e"] ["_law_call"] (Aq st)) (hb : Bv st = [Kc wn i1 i2 p1 p2 p3 p4 p5 p6 p7 p8 p9 p10 p11 p12])
  (k0 : (Aq st).names.lookup ("_law_call" : Str) = some .local) (k1 : (Aq st).names.lookup ("_law_e" : Str) = some .local) (gM : (Aq st).names.lookup ("MainError" : Str) = some .globalImplicit) (gw : (Aq st).names.lookup wn = some .globalImplicit)
  (hM : mg "MainError" = some (.ref M)) (hB : PySem.W.mroIn K M (.type "BaseException") = some true) (hT : PySem.W.typeIn K (.ref M) = some (.type "type")) (hWM : ∀ C w,W C w -> PySem.W.mroIn K C (.ref M) = some true)
  (Dw : D8 P w K mg base n wn ["_law_e"] (D7 W)) (hn : n <= k) (hdb : (wn == Str.ofString "__debug__") = false := by decide) : FO P w K mg base (k + 1) "_law_said" ["_law_call"] (DH P w K mg base k W) := by
 obtain ⟨f,fd,hF,hm,hbd⟩ := F.ex
 have kp := hF.kp
 obtain ⟨oc,od,kV,doc,pm,an,cdv,ct,osl,rfl,lk,hcd⟩ := hF.ex
 refine ⟨f,_,fun A outer s H args us vs Q hr e0 hbt r hsp => ?_,hm,kp,hbd⟩
 have hl : ∃ g,vs = [.ref g] := by
  unfold DH at hsp
  split at hsp
  ·exact ⟨_,rfl⟩
  ·exact hsp.elim
 obtain ⟨g,rfl⟩ := hl
 refine Kb lk hcd S hr.q e0 hbt r rfl fun s1 I => ?_
 have eA : ({ A with handled := none } : Around) = A := by
  obtain ⟨h,d,fs,gs,u⟩ := A
  have : h = none := hr.hd
  subst this
  rfl
 rw [eA] at I
 rw [hb]
 have hr' := hr.deeper (envOfC "_law_said" (Aq st) s.heap.objs.size f cdv)
 have I2 : Ac (BK CX0 P w K mg base ["_law_call","_law_e"] "_law_said" (Aq st) f cdv A outer s H E0) [] [some (.ref g),none] H s1 := I
 refine wpAny_mono (OA (X := BK CX0 P w K mg base ["_law_call","_law_e"] "_law_said" (Aq st) f cdv A outer s H E0) (k := k) rfl rfl rfl rfl rfl rfl rfl k0 k1 gM gw hM hB hT hWM Dw hdb hr' hn hsp I2) (fun fl s' z => ?_) fun _ _ z => z
 cases fl with
 | ret u =>
  obtain ⟨v,σ,H',J,rv,q⟩ := z
  exact ⟨v,H',J.os,J.bare,J.base,J.hok,rv,q⟩
 | next => exact z.elim
 | brk => exact z.elim
 | cont => exact z.elim
def FP (c : Addr) (q : Str) : HO := .ext fun h => h.CodeRec (.ref c) q
def TabIn (H : Hp) (P : Addr) (q : Str) : Prop := ∃ ps : Array Value,H P = some (.tbl ps) /\ TriplesOk ps.toList /\ ∀ pos v,codeAmong pos ps.toList = some v -> ∃ c,v = .ref c /\ H c = some (FP c q)
theorem OC {l : List Value} {a b : Nat} {c : Value} (h : TriplesOk l) : TriplesOk (l ++ [rawInt a,rawInt b,c]) := by
 fun_induction TriplesOk l with
 | case1 => exact trivial
 | case2 x t y t' z rest ih => exact ih h
 | case3 => exact h.elim
theorem OD {l : List Value} {a b : Nat} {c : Value} {pos : Pos} {v : Value} (h : TriplesOk l) (e : codeAmong pos (l ++ [rawInt a,rawInt b,c]) = some v) : codeAmong pos l = some v \/ v = c := by
 fun_induction TriplesOk l with
 | case1 =>
  have e' : codeAmong pos [rawInt a,rawInt b,c] = some v := e
  unfold codeAmong rawInt at e'
  dsimp only at e'
  split at e'
  ·exact .inr (Option.some.inj e').symm
  ·unfold codeAmong at e'; cases e'
 | case2 x t y t' z rest ih =>
  rw [List.cons_append,List.cons_append,List.cons_append] at e
  unfold codeAmong at e ⊢
  split at e
  ·rename_i q
   rw [if_pos q]
   exact .inl e
  ·rename_i q
   rw [if_neg q]
   exact ih h e
 | case3 => exact h.elim
section
variable {X : Cx} {pins : List (Addr × Obj)} {σ : St} {H : Hp} {s : Shared} {scope : Scope} {N' : List Str} {cap : List (Option Nat)} {P c : Addr} {ql : Str} {params : Arguments} {body : Expr} {pos : Pos}
theorem OE (I : Ac X pins σ H s) (hT : TabIn H P ql) (hcode : X.env.code = .ref c) (hC : PySem.W.CodeHd X.base c P) (hBu : X.base.BuiltinsAt X.mg P) (B : AM X.env.scope X.N scope N' cap)
  (hq : X.env.qual ++ "<lambda>" = ql) (hdef : defaultsOf params X.env = ([],[])) {Q : Value -> Shared -> Prop} {E : Value -> Shared -> Prop}
  (h : ∀ s1 H1 f c' pm ctv, Ac X pins σ H1 s1 -> TabIn H1 P ql -> (∀ b o, H b = some o -> b ≠ P -> H1 b = some o) -> H1 f = none -> f ∉ AE X.stack ->
   s1.heap.get? f = some (PySem.W.kla_obj "<lambda>" ql params body scope (AR X.env.cells scope.names []) pm c' ctv) -> H1 c' = some (FP c' ql) -> Q (.ref f) s1) :
  wpAny (model X.prog X.w) X.A (eval (.Lambda params body scope pos) X.env) Q E s := by
 obtain ⟨ps,hP,ht,hcs⟩ := hT
 have hPo : s.heap.get? P = some (PySem.W.tabObj ps) := I.hok P _ hP
 have hcl : closureFor scope X.env = pure (AR X.env.cells scope.names []) := Hf fun y hy hf => I.ok.has y.1 (B.free y hy hf)
 have hg : s.heap.Ns mainGlobals X.mg := I.mod.glob.keeps I.bk
 have hC' := hC.keeps I.bk
 have hgP : mainGlobals ≠ P := fun q => by
  obtain ⟨o,es,ep,e,hd,_⟩ := hg
  rw [q,hPo] at e; cases e; cases hd
 obtain ⟨bm,ob,b1,b2,b3,b4,b5,b6⟩ := hBu
 have hBu' : s.heap.BuiltinsAt X.mg P := ⟨bm,ob,b1,b2,b3,b4,I.bk _ _ b5,b6⟩
 have frLt : ∀ b ∈ AE X.stack,b < s.heap.objs.size := fun b hb => by
  obtain ⟨_,o,ho,_⟩ := I.stack.mem hb
  exact Heap.lt_size ho
 refine PySem.W.kla_eval hdef ?_
 rw [hq]
 cases hf : codeAmong pos ps.toList with
 | some cv =>
  obtain ⟨c',rfl,hc'⟩ := hcs pos cv hf
  refine PySem.W.kla_makeFunctionHit hcl I.ok.glob hg hcode hC' hPo ht hf hBu' fun ctv h' tk hk hsz => ?_
  have hk2 : ∀ b o,s.heap.get? b = some o -> (h'.push (PySem.W.kla_obj "<lambda>" ql params body scope (AR X.env.cells scope.names []) ((X.mg "__name__").getD .none) c' ctv)).get? b = some o := fun b o e => Heap.get?_push_of_some _ (hk b o e)
  refine h _ H h'.objs.size c' _ ctv (I.kept (t' := tk) hk2) ⟨ps,hP,ht,hcs⟩ (fun b o e _ => e) (I.hok.fresh hsz) (fun z => ?_) (Heap.get?_push_size _ rfl) hc'
  exact absurd (Nat.lt_of_lt_of_le (frLt _ z) hsz) (Nat.lt_irrefl _)
 | none =>
  refine PySem.W.kla_makeFunction hcl I.ok.glob hg hcode hC' hPo ht hf hgP hBu' fun c' ctv h' tk hx hge hlt hrec htb => ?_
  have szle : s.heap.objs.size <= h'.objs.size := Nat.le_of_lt (Nat.lt_of_le_of_lt hge hlt)
  have hx2 : ∀ b o,b ≠ P -> s.heap.get? b = some o -> (h'.push (PySem.W.kla_obj "<lambda>" ql params body scope (AR X.env.cells scope.names []) ((X.mg "__name__").getD .none) c' ctv)).get? b = some o := fun b o n e => Heap.get?_push_of_some _ (hx b o n e)
  have hPlt : P < s.heap.objs.size := Heap.lt_size hPo
  have cP : c' ≠ P := fun z => by rw [z] at hge; exact absurd (Nat.lt_of_lt_of_le hPlt hge) (Nat.lt_irrefl _)
  have hnc : H c' = none := I.hok.fresh hge
  have ne : ∀ b o,H b = some o -> b ≠ c' := fun b o e z => by rw [z,hnc] at e; cases e
  let ps' : Array Value := ps ++ #[rawInt pos.line,rawInt pos.col,.ref c']
  let H1 : Hp := upd (upd H P (.tbl ps')) c' (FP c' ql)
  have h1c : H1 c' = some (FP c' ql) := Ai
  have h1P : H1 P = some (.tbl ps') := by show upd _ c' _ P = _; rw [Ap (Ne.symm cP),Ai]
  have h1o : ∀ b,b ≠ P -> b ≠ c' -> H1 b = H b := fun b n m => by show upd _ c' _ b = _; rw [Ap m,Ap n]
  have keepT : ∀ b o,H b = some o -> b ≠ P -> H1 b = some o := fun b o e n => by rw [h1o b n (ne b o e)]; exact e
  have un : Un (AE X.stack) [] H H1 s.heap (h'.push (PySem.W.kla_obj "<lambda>" ql params body scope (AR X.env.cells scope.names []) ((X.mg "__name__").getD .none) c' ctv)) := by
   have nP : ∀ b,H b = none -> b ≠ P := fun b n z => by rw [z,hP] at n; cases n
   have nc2 : ∀ b o,s.heap.get? b = some o -> b ≠ c' := fun b o e z => by have := Heap.lt_size e; rw [z] at this; exact absurd (Nat.lt_of_lt_of_le this hge) (Nat.lt_irrefl _)
   refine ⟨fun b o e n _ _ => hx2 b o (nP b n) e,fun b o e n _ _ => ⟨o.slots,hx2 b o (nP b n) e⟩,fun b o e n _ => by rw [h1o b (nP b n) (nc2 b o e)]; exact n,fun b o e _ => ?_,fun b xs q => keepT b _ q (fun z => by rw [z,hP] at q; cases q),
    fun b o' xs q => keepT b _ q (fun z => by rw [z,hP] at q; cases q),fun b qs q => ?_⟩
   ·by_cases z : b = P
    ·subst z; exact ⟨_,Heap.get?_push_of_some _ htb⟩
    ·exact ⟨o,hx2 b o z e⟩
   ·by_cases z : b = P
    ·subst z
     rw [hP] at q
     cases q
     exact ⟨_,h1P⟩
    ·exact ⟨#[],by rw [keepT b _ q z]; simp⟩
  have hok : HOk X.prog X.w H1 (h'.push (PySem.W.kla_obj "<lambda>" ql params body scope (AR X.env.cells scope.names []) ((X.mg "__name__").getD .none) c' ctv)) := fun b o e => by
   by_cases z : b = P
   ·subst z
    rw [h1P] at e
    cases e
    exact Heap.get?_push_of_some _ htb
   ·by_cases z2 : b = c'
    ·subst z2
     rw [h1c] at e
     cases e
     refine ⟨hrec.push _,?_,fun g1 g2 x k => ?_⟩
     ·obtain ⟨c2,oc,vs,t,e2,hoc,_⟩ := hrec
      cases e2
      exact ⟨oc,Heap.get?_push_of_some _ hoc⟩
     ·obtain ⟨c2,oc,vs,t,e2,hoc,r⟩ := x
      cases e2
      exact ⟨_,oc,vs,t,rfl,k oc hoc,r⟩
    ·rw [h1o b z z2] at e
     refine (I.hok b o e).stay (fun d u hd q => hx2 d u (fun y => ?_) q) (fun d q => keepT d _ q fun y => by rw [y,hP] at q; cases q) fun d xs q => keepT d _ q fun y => by rw [y,hP] at q; cases q
     rcases hd with hd | hd
     ·exact z (hd ▸ y)
     ·rw [y,hP] at hd; cases hd
  have I1 : Ac X pins σ H1 { s with heap := h'.push (PySem.W.kla_obj "<lambda>" ql params body scope (AR X.env.cells scope.names []) ((X.mg "__name__").getD .none) c' ctv),toks := tk } :=
   I.call' (s' := { s with heap := h'.push (PySem.W.kla_obj "<lambda>" ql params body scope (AR X.env.cells scope.names []) ((X.mg "__name__").getD .none) c' ctv),toks := tk }) (ch := []) rfl un hok I.bare fun b z => absurd z (by simp)
  refine h _ H1 h'.objs.size c' _ ctv I1 ⟨ps',h1P,?_,fun pos' v e => ?_⟩ keepT ?_ (fun z => ?_) (Heap.get?_push_size _ rfl) h1c
  ·show TriplesOk (ps ++ #[rawInt pos.line,rawInt pos.col,.ref c']).toList
   rw [Array.toList_append]
   exact OC ht
  ·have e' : codeAmong pos' (ps ++ #[rawInt pos.line,rawInt pos.col,.ref c']).toList = some v := e
   rw [Array.toList_append] at e'
   rcases OD ht e' with q | q
   ·obtain ⟨c2,r1,r2⟩ := hcs pos' v q
    exact ⟨c2,r1,keepT c2 _ r2 fun y => by rw [y,hP] at r2; cases r2⟩
   ·exact ⟨c',q,h1c⟩
  ·rw [h1o _ (Nat.ne_of_gt (Nat.lt_of_lt_of_le hPlt szle)) (Nat.ne_of_gt hlt)]
   exact I.hok.fresh szle
  ·exact absurd (Nat.lt_of_lt_of_le (frLt _ z) szle) (Nat.lt_irrefl _)
end
section
variable {X : Cx} {scope : Scope} {N' : List Str} {cap : List (Option Nat)} {P c : Addr} {ql : Str} {params : Arguments} {body : Expr} {lpos p pos : Pos} {W : Addr -> Str -> Prop} {k : Nat} {te : XK -> TE}
def OF (P : Addr) (ql : Str) (W : Addr -> Str -> Prop) (cap : List (Option Nat)) (te : XK -> TE) : TE := fun σ H Q => TabIn H P ql /\ ∀ H1,TabIn H1 P ql -> (∀ b o,H b = some o -> b ≠ P -> H1 b = some o) -> te (EO W Q) (AJ cap σ) H1 (FN Q)
theorem D9 (F : FO X.prog X.w X.K X.mg X.base (k + 1) "_law_said" ["_law_call"] (DH X.prog X.w X.K X.mg X.base k W)) (hr : AX (k + 1) X.A) (hg : Gl X "_law_said") (hfn : ∀ x,X.fn x = true) (hcode : X.env.code = .ref c) (hC : PySem.W.CodeHd X.base c P) (hBu : X.base.BuiltinsAt X.mg P)
  (B : AM X.env.scope X.N scope N' cap) (nc : ∀ x ∈ scope.names,x.2 ≠ .cell) (co : scope.isCoroutine = false) (gen : scope.isGenerator = false) (hq : X.env.qual ++ "<lambda>" = ql) (hdef : defaultsOf params X.env = ([],[]))
  (hbind : ∀ clos pm c' ctv,bindArgs (PySem.W.kla_fn "<lambda>" ql params body scope clos pm (.ref c') ctv) ⟨[],[]⟩ = pure [])
  (hbody : ∀ (A : Around) (outer : List Env) (s : Shared) (H : Hp) (f c' : Addr) (E : XK),AX k A -> PE (EN X.prog X.w X.K X.mg X.base N' ql scope f (.ref c') (AR X.env.cells scope.names []) A outer s H E) body (te E))
  (he : starEach [.Lambda params body scope lpos] X.env = (false,eval (.Lambda params body scope lpos) X.env) :: starEach [] X.env := by rfl) (hpl : (backTo pos (starEach [] X.env)).any (·.1) = false := by rfl) :
  PE X (.Call (.Name "_law_said" p) [.Lambda params body scope lpos] [] pos) (OF P ql W cap te) := by
 intro pins s σ H Q I ⟨hT,hqq⟩
 obtain ⟨f0,fd,run,hm,hk,hb⟩ := F.ex
 refine wpAny_Call_Name_kw (DN I hg hm ?_ (by decide))
 refine PySem.W.callWith_K (h₀ := X.base) I.ok.mod.kin hk (spliced_more (OE I hT hcode hC hBu B hq hdef fun s1 H1 f c' pm ctv I1 T1 k1 n1 n2 o1 c1 => spliced_none ⟨I1.kIn,?_⟩)) he hpl
 have hbb := hb s1 [.ref f] I1.kIn rfl
 refine wpAny_call (codeAny_mono (run X.A X.stack s1 H1 ⟨[.ref f],[]⟩ [.ref f] [.ref f] Q hr I1.env0 hbb (.cons rfl .nil) ?_) fun r s' hq => ?_)
 ·refine ⟨⟨_,_,_,_,o1⟩,n1,n2,fun A' outer' s' hr' e' un => ?_⟩
  refine Ov I1 B nc co gen hr' e' (fun x cc v e ic => ?_) (un.keep f _ o1 n1 n2 (by simp)) (e'.hok c' _ c1).1 (hbind _ _ _ _) (hbody A' outer' s' H1 f c' _ hr') (hqq H1 T1 k1)
  obtain ⟨o,ho,hd⟩ := ic
  refine ⟨o,un.keep cc o ho (I1.freeC x cc e) (fun z => ?_) (by simp),hd⟩
  rcases List.mem_cons.mp (I1.stkSub cc z) with q | q
  ·exact I1.cne x cc e q
  ·obtain ⟨_,o',ho',_⟩ := I1.ok.funs.mem q
   exact absurd (Nat.lt_of_lt_of_le (Heap.lt_size ho') (I1.ok.cab x cc (hfn x) e)) (Nat.lt_irrefl _)
 ·cases r with
  | error e => exact hq.elim
  | ok fl =>
   cases fl with
   | ret u => exact I1.after hq
   | next => exact False.elim hq
   | brk => exact False.elim hq
   | cont => exact False.elim hq
end
theorem OG (a b : Bool) : MeetsSeq.EqGives (.bool a) (.bool b) (a == b) := fun prog w A E s Q h => PySem.SeqAt.EqAt.bool_bool a b prog w E Q h
def Ea : Value -> Bool
 | .bool b => b
 | _ => false
theorem HN : ∀ {bs : List Bool} {us : List Value},At (bs.map V.bl) us -> us = bs.map Value.bool
 | [],_,h => by cases h; rfl
 | b :: bs,_,h => by
  cases h with
  | cons r t =>
   have := HN t
   subst this
   have r' : _ = Value.bool b := r
   rw [r']
   rfl
theorem Kd {bs : List Bool} : ∀ y,y ∈ (bs.map Value.bool).toArray -> MeetsSeq.EqGives y (.bool true) (Ea y) := fun y hy => by
 have hy' : y ∈ bs.map Value.bool := by simpa using hy
 obtain ⟨b,_,rfl⟩ := List.mem_map.mp hy'
 have := OG b true
 cases b <;> exact this
section
variable {X : Cx}
def OH : V -> List V -> Hp -> VK -> Prop := fun x vs H Q => ∃ (l : Addr) (bs : List Bool),x = .ref l /\ vs = [.bl true] /\ H l = some (.lst (bs.map V.bl)) /\ Q (.int (bs.count true : Nat)) H
theorem OI : Fc X "list.count" OH := by
 intro pins s σ H x vs v us Q I rx rv h
 obtain ⟨l,bs,rfl,rfl,hH,q⟩ := h
 cases rx
 obtain ⟨u,rfl,ru⟩ := rv.one
 have ru' : u = Value.bool true := ru
 subst ru'
 obtain ⟨its,r,pl,hz⟩ := I.list (Am.of hH)
 have e := HN r
 subst e
 obtain ⟨⟨cls,dd,data,sl⟩,ho,hc,n,hd⟩ := id pl.isList
 simp only at hc hd
 subst hc hd
 refine call_meets PySem.F.slot_list_count ⟨_,ho,rfl⟩ PySem.F.entry_list_count (PySem.F.args_list_count_2 _ _) (PySem.SeqAt.list_countAt l (bs.map Value.bool).toArray n dd sl (.bool true) Ea) ⟨ho,fun y hy => (Kd y hy).at _ _,?_⟩
 have ec : (bs.map Value.bool).toArray.toList.countP Ea = bs.count true := by
  rw [show (bs.map Value.bool).toArray.toList = bs.map Value.bool from rfl,List.countP_map]
  unfold List.count
  congr 1
  funext b
  cases b <;> rfl
 rw [ec]
 exact ⟨.int (bs.count true : Nat),H,I.tok _,⟨_,rfl⟩,q⟩
def Ke : V -> List V -> Hp -> VK -> Prop := fun x vs H Q => ∃ (l : Addr) (bs : List Bool) (j : Nat),x = .ref l /\ vs = [.bl true] /\ H l = some (.lst (bs.map V.bl)) /\ bs.length <= 1000 /\ bs[j]? = some true /\ (∀ m,m < j -> bs[m]? = some false) /\ Q (.int (j : Nat)) H
theorem OJ : Fc X "list.index" Ke := by
 intro pins s σ H x vs v us Q I rx rv h
 obtain ⟨l,bs,j,rfl,rfl,hH,hs,hj,hno,q⟩ := h
 cases rx
 obtain ⟨u,rfl,ru⟩ := rv.one
 have ru' : u = Value.bool true := ru
 subst ru'
 obtain ⟨_,its,n,r,ho⟩ := (show ObjOk X.prog X.w H s.heap l (.lst (bs.map V.bl)) from I.hok l _ hH)
 have e := HN r
 subst e
 have hjl : j < bs.length := (List.getElem?_eq_some_iff.mp hj).1
 have hbj : bs[j] = true := (List.getElem?_eq_some_iff.mp hj).2
 refine call_meets PySem.F.slot_list_index ⟨_,ho,rfl⟩ PySem.F.entry_list_index (PySem.F.args_list_index_2 _ _) (MeetsSeq.list_index l (bs.map Value.bool).toArray n (.bool true) Ea Kd j (by simpa using hjl) (by omega) (by simp [Ea,hbj]) (fun m hm hlt => ?_)) ⟨ho,?_⟩
 ·have := hno m hlt
  have hbm : bs[m]'(by simpa using hm) = false := (List.getElem?_eq_some_iff.mp this).2
  simp [Ea,hbm]
 ·exact ⟨.int (j : Nat),H,I.tok _,⟨_,rfl⟩,q⟩
def OK (K : PySem.W.Frag) : List V -> Hp -> VK -> Prop := fun xs H Q => ∃ (e C : Addr) (v : V) (b : Bool),xs = [.ref e,v] /\ H e = some (D4 e C) /\ DG K C /\ (∀ u,Aw v u -> PySem.W.kitOne K (.ref C) u = some b) /\ Q (.bl b) H
theorem Bp (K : PySem.W.Frag) (hK : X.K = K := by rfl) : Bu X (.builtin "isinstance") (OK K) := by
 subst hK
 intro pins s σ H vs us Q I rv h
 obtain ⟨e,C,v,b,rfl,he,O,k,q⟩ := h
 obtain ⟨u1,u2,rfl,r1,r2⟩ := rv.two
 have r1' : u1 = Value.ref e := r1
 subst r1'
 exact Oq I he O (k u2 r2) fun tk => ⟨.bl b,H,I.tok _,rfl,q⟩
end
def theWords : List Str := ["plant","story","firing","hour","boiler","prices","way","set","tanks","pump","feeding","readings","start","shifts","book","amount","deed","line","text"]
def BZ (K : PySem.W.Frag) (M : Addr) (ds : List Addr) (i : Nat) : Bool :=
 (PySem.W.findIn K (.ref (ds.getD i 0)) "__getattribute__" == some (some (.builtin "BaseException.__getattribute__"))) && (PySem.W.findIn K (.ref (ds.getD i 0)) "__getattr__" == some none) && (PySem.W.clsIn K (ds.getD i 0)).isSome &&
 (PySem.W.findIn K (.ref (ds.getD i 0)) "__class__" == some (some (.builtin "object.__class__"))) && (PySem.W.specialIn K (.builtin "object.__class__") "__get__" == some (some (.builtin "getset_descriptor.__get__"))) && (PySem.W.takesIn K (.builtin "object.__class__") == some true) &&
 (PySem.W.mroIn K (ds.getD i 0) (.type "object") == some true) && (PySem.W.mroIn K (ds.getD i 0) (.type "BaseException") == some true) && (PySem.W.mroIn K (ds.getD i 0) (.ref M) == some true) &&
 ((List.range 19).all fun j => PySem.W.kitOne K (.ref (ds.getD i 0)) (.ref (ds.getD j 0)) == some (j == i)) && (PySem.W.kitOne K (.ref (ds.getD i 0)) (.type "ValueError") == some true)
structure Wd (K : PySem.W.Frag) (M : Addr) (ds : List Addr) (C : Addr) (word : Str) : Prop where
 ex : ∃ i,i < 19 /\ C = ds.getD i 0 /\ theWords[i]? = some word /\ BZ K M ds i = true
section
variable {K : PySem.W.Frag} {M : Addr} {ds : List Addr} {i : Nat}
theorem Kf (h : BZ K M ds i = true) : DG K (ds.getD i 0) /\ PySem.W.mroIn K (ds.getD i 0) (.ref M) = some true /\ (∀ j,j < 19 -> PySem.W.kitOne K (.ref (ds.getD i 0)) (.ref (ds.getD j 0)) = some (j == i)) /\ PySem.W.kitOne K (.ref (ds.getD i 0)) (.type "ValueError") = some true := by
 unfold BZ at h
 simp only [Bool.and_eq_true,beq_iff_eq] at h
 obtain ⟨⟨⟨⟨⟨⟨⟨⟨⟨⟨h1,h2⟩,h3⟩,h4⟩,h5⟩,h6⟩,h7⟩,h8⟩,h9⟩,h10⟩,h11⟩ := h
 refine ⟨⟨h1,h2,h3,h4,h5,h6,h7,h8⟩,h9,fun j hj => ?_,h11⟩
 have := List.all_eq_true.mp h10 j (List.mem_range.mpr hj)
 exact beq_iff_eq.mp this
theorem Wd.mro {C : Addr} {word : Str} (h : Wd K M ds C word) : PySem.W.mroIn K C (.ref M) = some true := by
 obtain ⟨i,_,rfl,_,q⟩ := h.ex
 exact (Kf q).2.1
end
theorem OL {P : Program} {w : World} {K : PySem.W.Frag} {mg mb : Str -> Option Value} {CX : Cc} {k : Nat} {fa a c T : Addr} {fd : FuncData} {x : Str} {sp : Sp} {s₁ : Shared} {vs : List Value} {ns : List Int}
  (KX : K.In s₁.heap) (hns : s₁.heap.Ns mainGlobals mg) (hb : s₁.heap.Ns builtinsNs mb) (hbb : ∀ x : Str,x ≠ "__name__" -> mb x = bootBuiltins x) (hlim : s₁.heap.NoLimit) (hg : s₁.gens = #[])
  (ha : s₁.heap.get? a = some { cls := .type "list",data := .seq vs.toArray }) (hi : IntsAre vs ns) (hl : ns.length <= sizeLine) (hr : AX k callerA)
  (t1 : PySem.W.CodeHd s₁.heap c T) (t2 : s₁.heap.get? T = some (PySem.W.tabObj #[])) (t3 : PySem.W.noTabs K = true) (t4 : s₁.heap.BuiltinsAt mg T)
  (F : ∀ base : Heap,K.In base -> base.Ns mainGlobals mg -> PySem.W.CodeHd base c T -> base.BuiltinsAt mg T -> Cw P w K mg base CX k fa fd [x] sp) (hbind : ∀ (s : Shared) (u : Value),BindsTo s fd ⟨[u],[]⟩ [(x,u)])
  (hsp : ∀ H : Hp,H T = some (.tbl #[]) -> Am K H a (ns.map V.int) -> sp [.ref a] H (fun v _ => v = .bl true) fun _ _ _ => False)
  (hCX : ∀ H e s',CX [] H s₁ (fun _ _ _ => False) e s' -> False) :
  codeAny (model P w) callerA (.call (.ref fa) ⟨[.ref a],[]⟩) (fun r s' => r = .ok (.ret (.bool true)) /\ OldK s₁.heap s'.heap /\ s'.os = s₁.os /\ AllBare s'.gens) s₁ := by
 have rv := Jl hi
 have lenV := hi.length
 have aT : a ≠ T := fun z => by rw [z,t2] at ha; cases ha
 have kT : K.lookup T = none := by
  cases q : K.lookup T with
  | none => rfl
  | some o =>
   have e := KX T o q
   rw [t2] at e
   cases e
   have h2 := List.all_eq_true.mp t3 _ (PySem.W.mem_of_lookupK q)
   exact absurd (show false = true from h2) Bool.false_ne_true
 have hTs : T ≠ cStatics := fun z => by
  obtain ⟨mc,⟨o,es,ep,e,hd,_⟩,_⟩ := hlim
  rw [<- z,t2] at e; cases e; cases hd
 have core : ∀ H : Hp,H T = some (.tbl #[]) -> (∀ b,b ≠ T -> H b = none \/ ∃ o xs,H b = some (.frz o (.lst xs))) -> Am K H a (ns.map V.int) -> HOk P w H s₁.heap -> (∀ b,H b ≠ none -> b = a \/ b = T) -> (H a ≠ none -> K.lookup a = none) ->
   codeAny (model P w) callerA (.call (.ref fa) ⟨[.ref a],[]⟩) (fun r s' => r = .ok (.ret (.bool true)) /\ OldK s₁.heap s'.heap /\ s'.os = s₁.os /\ AllBare s'.gens) s₁ := by
  intro H hHT hO hS hok hA hK
  have base_of : ∀ {b : Addr} {o : Obj},s₁.heap.get? b = some o -> H b = none -> (Cp s₁.heap H).get? b = some o := fun e n => Le e n
  have noA : ∀ {b : Addr} {o : Obj},s₁.heap.get? b = some o -> (∀ xs n,o.data ≠ .seq xs n) -> o.cls ≠ .none -> H b = none := fun {b o} e d1 d2 => by
   cases q : H b with
   | none => rfl
   | some u =>
    rcases hA b (by rw [q]; simp) with e' | e'
    ·subst e'
     rw [ha] at e; cases e
     exact absurd rfl (d1 _ _)
    ·subst e'
     rw [t2] at e; cases e
     exact absurd rfl d2
  have noD : ∀ {b : Addr} {o : Obj} {es : Array DictEntry} {ep : Nat},s₁.heap.get? b = some o -> o.data = .dict es ep -> H b = none := fun {b o es ep} e d => by
   cases q : H b with
   | none => rfl
   | some u =>
    rcases hA b (by rw [q]; simp) with e' | e'
    ·subst e'
     rw [ha] at e; cases e
     have d' : Data.seq vs.toArray _ = Data.dict es ep := d
     cases d'
    ·subst e'
     rw [t2] at e; cases e
     have d' : Data.fields #[] = Data.dict es ep := d
     cases d'
  have nsK : ∀ {b : Addr} {m : Str -> Option Value},s₁.heap.Ns b m -> (Cp s₁.heap H).Ns b m := fun {b m} ⟨o,es,ep,e,d,r⟩ => ⟨o,es,ep,base_of e (noD e d),d,r⟩
  have hKb : K.In (Cp s₁.heap H) := fun b o e => base_of (KX b o e) (by
   cases q : H b with
   | none => rfl
   | some u =>
    rcases hA b (by rw [q]; simp) with e' | e'
    ·subst e'
     rw [hK (by rw [q]; simp)] at e; cases e
    ·subst e'
     rw [kT] at e; cases e)
  have hM : Mod K mg (Cp s₁.heap H) := ⟨hKb,nsK hns,⟨mb,nsK hb,hbb⟩,let ⟨mc,h1,h2⟩ := hlim; ⟨mc,nsK h1,h2⟩⟩
  have e0 : Cv P w K mg (Cp s₁.heap H) callerA [] s₁ H := ⟨rfl,hM,fun b o e => Lf e,Nat.le_of_eq (Ld _ _),trivial,fun b hb => absurd (show b ∈ ([] : List Addr) from hb) (by simp),hok,.of_eq hg⟩
  have t1' : PySem.W.CodeHd (Cp s₁.heap H) c T := by
   obtain ⟨o,vs',file,tf,flags,tg,inF,text,tt,e1,e2,e3,r⟩ := t1
   exact ⟨o,vs',file,tf,flags,tg,inF,text,tt,base_of e1 (noA e1 (fun xs n q => by rw [e3] at q; cases q) (fun q => by rw [e2] at q; cases q)),e2,e3,r⟩
  have t4' : (Cp s₁.heap H).BuiltinsAt mg T := by
   obtain ⟨bm,ob,b1,b2,b3,b4,b5,b6,b7,b8⟩ := t4
   exact ⟨bm,ob,b1,b2,b3,b4,base_of b5 (noA b5 (fun xs n q => by rw [b8] at q; cases q) (fun q => by rw [b6] at q; cases q)),b6,b7,b8⟩
  refine codeAny_mono ((F _ hKb (nsK hns) t1' t4').run callerA [] s₁ H ⟨[.ref a],[]⟩ [.ref a] [.ref a] _ _ hr e0 (hbind s₁ (.ref a)) (.cons rfl .nil) (hsp H hHT hS)) fun r s' h => ?_
  cases r with
  | error e => exact (hCX H e s' h).elim
  | ok fl =>
   cases fl with
   | next => exact False.elim h
   | brk => exact False.elim h
   | cont => exact False.elim h
   | ret u =>
    obtain ⟨v,H',os,bare,un,hok',r',q⟩ := h
    have q' : v = .bl true := q
    subst q'
    obtain rfl : u = Value.bool true := r'
    have keepO : ∀ b o,b ≠ T -> s₁.heap.get? b = some o -> s'.heap.get? b = some o := fun b o n e => by
     cases q : H b with
     | none => exact un.keep b o e q (by intro z; exact absurd (show b ∈ ([] : List Addr) from z) (by simp)) (by simp)
     | some u =>
      rcases hO b n with z | ⟨ob,xs,z⟩
      ·rw [q] at z; cases z
      ·have z2 := un.frzs b ob _ z
       obtain ⟨e1,_⟩ := hok b _ z
       obtain ⟨e2,_⟩ := hok' b _ z2
       rw [e] at e1; cases e1
       exact e2
    obtain ⟨more,eT⟩ := un.tbls T #[] hHT
    have oT : s'.heap.get? T = some (PySem.W.tabObj (#[] ++ more)) := hok' T _ eT
    have cT : PySem.W.CodeHd s'.heap c T := by
     obtain ⟨o,vs',file,tf,flags,tg,inF,text,tt,e1,e2,e3,e4,e5,e6,e7,e8,e9,e10⟩ := t1
     exact ⟨o,vs',file,tf,flags,tg,inF,text,tt,keepO c o e10 e1,e2,e3,e4,e5,e6,e7,e8,e9,e10⟩
    exact ⟨rfl,OldK.step_table (OldK.refl _) (t1.tab t2) (t1.tab t2) (cT.tab oT) (fun b o n e => keepO b o n e) hTs,os,bare⟩
 cases hk : K.lookup a with
 | some o =>
  have e := KX a o hk
  rw [ha] at e
  cases e
  refine core (fun b => if b = T then some (.tbl #[]) else none) (if_pos rfl) (fun b n => .inl (if_neg n)) (.inr ⟨_,vs.toArray,_,hk,rfl,rfl,rfl,by rw [List.size_toArray,lenV]; exact hl,by simpa using rv⟩) (fun b u z => ?_) (fun b z => ?_) fun z => absurd (if_neg aT) z
  ·by_cases hb : b = T
   ·have z' := (if_pos hb).symm.trans z
    cases z'
    subst hb
    exact t2
   ·have z' := (if_neg hb).symm.trans z
    cases z'
  ·by_cases hb : b = T
   ·exact .inr hb
   ·exact absurd (if_neg hb) z
 | none =>
  have ifa : (if a = T then some (HO.tbl #[]) else if a = a then some (HO.frz { cls := .type "list",data := .seq vs.toArray } (.lst (ns.map V.int))) else none) = some (HO.frz { cls := .type "list",data := .seq vs.toArray } (.lst (ns.map V.int))) := by rw [if_neg aT,if_pos rfl]
  refine core (fun b => if b = T then some (.tbl #[]) else if b = a then some (.frz { cls := .type "list",data := .seq vs.toArray } (.lst (ns.map V.int))) else none) (if_pos rfl) (fun b n => ?_) (.inl (.inr ⟨{ cls := .type "list",data := .seq vs.toArray },ifa⟩)) (fun b u z => ?_) (fun b z => ?_) fun _ => hk
  ·by_cases hb : b = a
   ·exact .inr ⟨_,_,by rw [if_neg n,if_pos hb]⟩
   ·exact .inl (by rw [if_neg n,if_neg hb])
  ·dsimp only at z
   by_cases hb : b = T
   ·rw [if_pos hb] at z
    cases z
    subst hb
    exact t2
   ·rw [if_neg hb] at z
    by_cases hb : b = a
    ·rw [if_pos hb] at z
     cases z
     subst hb
     exact ⟨ha,by rw [List.length_map]; exact hl,vs,_,rv,ha⟩
    ·rw [if_neg hb] at z; cases z
  ·by_cases hb : b = T
   ·exact .inr hb
   ·by_cases hb2 : b = a
    ·exact .inl hb2
    ·exact absurd (by show (if b = T then _ else _) = none; rw [if_neg hb,if_neg hb2]) z
theorem walk_ofT {l : PySem.W.OpenLaw} {n k : Nat} {q : Program} {loose : List Str} {XP : (Str -> Option Value) -> Heap -> Prop} {YP : World -> Heap -> Prop} {d dT : DefRec} {K : Params -> PySem.W.Frag} {CX : World -> Cc} {sp : PySem.W.Frag -> Addr -> Sp} {x xT : Str}
  (hn : l.most = some n) (hn2 : n <= sizeLine) (hdf : d.params.defaults = []) (hr : AX k callerA)
  (hY : ∀ (w : World) (h : Heap),YP w h -> (K w.params).In h) (hrec : (recsOf q).find? (fun e => e.name == xT) = some dT) (htab : ∀ w : World,(PySem.W.tabIn (K w.params) xT).isSome = true) (hnt : ∀ w : World,PySem.W.noTabs (K w.params) = true)
  (F : ∀ (w : World) (mg : Str -> Option Value) (fa : Addr) (h : Heap) (c T : Addr), (K w.params).In h -> h.Ns mainGlobals mg -> mg d.name = some (.ref fa) -> PySem.W.tabIn (K w.params) xT = some (c, T) ->
   ∃ fd : FuncData,(∀ (s : Shared) (u : Value),BindsTo s fd ⟨[u],[]⟩ [(x,u)]) /\
    ∀ base : Heap,(K w.params).In base -> base.Ns mainGlobals mg -> PySem.W.CodeHd base c T -> base.BuiltinsAt mg T -> Cw l.prog w (K w.params) mg base (CX w) k fa fd [x] (sp (K w.params) T))
  (hsp : ∀ (K : PySem.W.Frag) (H : Hp) (a T : Addr) (ns : List Int),ns.length <= n -> H T = some (.tbl #[]) -> Am K H a (ns.map V.int) -> sp K T [.ref a] H (fun v _ => v = .bl true) fun _ _ _ => False)
  (hCX : ∀ (w : World) (H : Hp) (s : Shared) (e : Value) (s' : Shared),CX w [] H s (fun _ _ _ => False) e s' -> False) :
  PySem.W.WalkO q loose XP YP l.row.toRowW d [] (fun f vs => PySem.call f vs) := by
 refine Att.attach_call hn hdf fun w s₀ s₁ mg mb fa o pm cd doc a vs ns G Y ho hd hcd hmg hobj hints hlen hg => ?_
 have KX := hY w _ Y
 obtain ⟨⟨c,T⟩,ht⟩ := Option.isSome_iff_exists.mp (htab w)
 obtain ⟨t1,t2⟩ := PySem.W.tab_of G.T KX hrec ht
 obtain ⟨fd,hb,hF⟩ := F w mg fa _ c T KX G.T.g hmg ht
 have t4 : s₁.heap.BuiltinsAt mg T := by
  obtain ⟨bm,ob,b1,b2,b3,b4,b5,b6⟩ := G.T.bmain
  refine ⟨bm,ob,b1,b2,fun z => ?_,fun z => ?_,b3,b4,b5,b6⟩
  ·obtain ⟨o,es,ep,e,hd',_⟩ := G.T.g
   rw [z,e] at b3; cases b3; rw [hd'] at b6; cases b6
  ·rw [z,t2] at b3; cases b3; cases b4
 exact OL KX G.T.g G.T.b G.T.builtins G.T.nolimit hg hobj hints (Nat.le_trans hlen hn2) hr t1 t2 (hnt w) t4 hF hb (fun H h1 h2 => hsp (K w.params) H a T ns hlen h1 h2) fun H e s' => hCX w H s₁ e s'
structure WdK (K : PySem.W.Frag) (M : Addr) (ds : List Addr) (C : Addr) (word : Str) : Prop where
 ex : ∃ i,i < 16 /\ C = ds.getD i 0 /\ theWords[i]? = some word /\ BZ K M ds i = true
section
variable {X : Cx}
def OM (K : PySem.W.Frag) : R2 := fun x y H Q => ∃ p q ss d,y = .ref q /\ Af K H q (List.map V.str ss) /\ Aa p H d x /\ (∀ kvs,d ≠ .dict kvs) /\ Q (.bl (FM d ss)) H
theorem ON {k : Nat} (K : PySem.W.Frag) (hr : AX k X.A) (hK : X.K = K := by rfl) : OpR X (compareOp .In) (OM K) := by
 subst hK
 intro pins s σ H x y v u Q I rx ry h
 obtain ⟨p,qa,ss,d,rfl,hq,rd,nd,q⟩ := h
 cases ry
 have un := hr.un
 have in1 : X.A.in1.units <= X.A.units + 1 := by first | exact Nat.le_refl _ | exact Nat.le_succ _ | (unfold PySem.Around.in1; simp)
 obtain ⟨its,r,pl,hz⟩ := I.tuple hq
 refine SeqAt.in_tupleAt (EK d) pl (fun w hw => ?_) ⟨.bl _,H,I,rfl,?_⟩
 ·obtain ⟨a,t,rfl⟩ := J8 r w (by simpa using hw)
  cases d with
  | none => unfold Aa at rd; subst rd; cases rx; exact SeqAt.EqAt.str_none a t
  | bool b => unfold Aa at rd; subst rd; cases rx; exact SeqAt.EqAt.str_bool a t b
  | int i => unfold Aa at rd; subst rd; obtain ⟨t',rfl⟩ := rx; exact SeqAt.EqAt.str_int a t i t'
  | str z => unfold Aa at rd; subst rd; obtain ⟨t',rfl⟩ := rx; exact SeqAt.EqAt.str_str a t z t'
  | tuple ds =>
   unfold Aa at rd
   obtain ⟨b,xs,rfl,hb,_⟩ := rd
   cases rx
   obtain ⟨its2,rv,pl2,_⟩ := I.tuple (Af.of hb)
   exact SeqAt.EqAt.str_tuple a t pl2 (by omega)
  | list ds =>
   unfold Aa at rd
   obtain ⟨b,xs,rfl,_,hb,_⟩ := rd
   cases rx
   obtain ⟨its2,rv,pl2,_⟩ := I.list (Am.of hb)
   exact SeqAt.EqAt.str_list a t pl2.isList (by omega)
  | dict kvs => exact absurd rfl (nd kvs)
 ·rw [show its.toArray.any (EK d) = its.any (EK d) by simp,J7 r]
  exact q
end
def GotL (H : Hp) (xs : List V) (Q : VK) : Prop := ∀ r H',Ab H H' -> H r = none -> H' r = some (.lst xs) -> Q (.ref r) H'
theorem GotL.at {H : Hp} {xs : List V} {Q : VK} (q : GotL H xs Q) : ∀ p,H p = none -> Q (.ref p) (upd H p (.lst xs)) := fun p hp => q p _ (Ab.new hp) hp Ai
section
variable {X : Cx} {es : List Expr} {t : TA} {pos : Pos}
def OO (t : TA) : TE := fun σ H Q => t σ H fun xs H1 => match Nat.ble xs.length 64 with | true => DZ H1 xs Q | false => False
def OP (t : TA) : TE := fun σ H Q => t σ H fun xs H1 => match Nat.ble xs.length 64 with | true => GotL H1 xs Q | false => False
theorem AV {x1} (h : PA X es t) : PE X (.Tuple es x1 pos) (OO t) := by
 intro pins s σ H Q I hq
 refine wpAny_Tuple_spliced (Ar (h pos pins s σ H _ I hq) fun us s1 ⟨xs,H1,I1,r,q⟩ => ?_)
 dsimp only at q
 split at q
 ·rename_i z
  refine ⟨by rw [<- r.length]; exact Bl z,?_⟩
  have hf : H1 s1.heap.objs.size = none := I1.hok.fresh (Nat.le_refl _)
  refine ⟨.ref s1.heap.objs.size,upd H1 s1.heap.objs.size (.tup xs),I1.laid (t' := s1.toks) (fun b u e => Heap.get?_push_of_some _ e) (Nat.le_refl _) ?_,rfl,q _ _ (Ab.new hf) Ai⟩
  exact ⟨Bl z,us,r,⟨_,Heap.get?_push_size _ rfl,rfl,_,rfl⟩⟩
 ·exact q.elim
theorem B7 (h : PA X es t) : PE X (.List es pos) (OP t) := by
 intro pins s σ H Q I hq
 refine wpAny_List_spliced (Ar (h pos pins s σ H _ I hq) fun us s1 ⟨xs,H1,I1,r,q⟩ => ?_)
 dsimp only at q
 split at q
 ·rename_i z
  refine ⟨by rw [<- r.length]; exact Bl z,?_⟩
  have hf : H1 s1.heap.objs.size = none := I1.hok.fresh (Nat.le_refl _)
  refine ⟨.ref s1.heap.objs.size,upd H1 s1.heap.objs.size (.lst xs),I1.laid (t' := s1.toks) (fun b u e => Heap.get?_push_of_some _ e) (Nat.le_refl _) ?_,rfl,q.at _ hf⟩
  exact ⟨Bl z,us,0,r,Heap.get?_push_size _ rfl⟩
 ·exact q.elim
def OQ : R2 := fun x y H Q => ∃ l b xs zs,x = .ref l /\ y = .ref b /\ H l = some (.lst xs) /\ H b = some (.lst zs) /\ xs.length + zs.length <= sizeLine /\ GotL H (xs ++ zs) Q
theorem OR : OpR X (binaryOp .Add) OQ := by
 intro pins s σ H x y v u Q I rx ry h
 obtain ⟨l,b,xs,zs,e1,e2,h1,h2,hz,q⟩ := h
 exact DS pins s σ H x y v u Q I rx ry ⟨l,b,xs,zs,e1,e2,h1,h2,hz,q.at⟩
def OS (K : PySem.W.Frag) : List V -> Hp -> VK -> Prop := fun xs H Q => ∃ p ys,xs = [.ref p] /\ (Am K H p ys \/ Af K H p ys) /\ GotL H ys Q
theorem Kg (K : PySem.W.Frag) (h : X.K = K := by rfl) : Bu X (.type "list") (OS K) := by
 intro pins s σ H xs us Q I r hq
 obtain ⟨p,ys,e,hs,q⟩ := hq
 exact Np K h pins s σ H xs us Q I r ⟨p,ys,e,hs,q.at⟩
end
end L2
end
section
namespace L2
open PySem PySem.Spec PyProof.Rows
section
variable {X : Cx}
end
end L2
namespace MF
open PySem PySem.Spec PyProof.Rows L2
def Eb (p : Int) (q : Int × Int) : Int := if q.2 < p then q.1 * (q.2 - p) else 0
def spared (r co : List Int) (p : Int) : Int := ((r.zip co).map (Eb p)).sum
def Ec (lo hi p b : Int) : Int := (p - b) * (if b < p then lo else hi)
def BF (T : TM) (h : Nat) (p b : Int) : Int := p * T.ds.getD h 0 + spared (T.cs.getD h []) T.co p + Ec T.lo T.hi p b
def Kh (T : TM) (ns : List Int) (k : Nat) : Int := ((List.range k).map fun h => BF T h (ns.getD h 0) (ns.getD (h + 1) 0)).sum
def FQ (T : TM) (ns : List Int) : Int := Kh T ns ns.length - ns.getD 0 0 * T.st
structure BG (T : TM) : Prop where
 ok : T.ok
 c : ∀ r ∈ T.cs,r.length = T.co.length /\ ∀ c ∈ r,0 <= c /\ c <= 20
 o : T.co.length <= 4
 o1 : ∀ c ∈ T.co,1 <= c /\ c <= 9
 d : ∀ x ∈ T.ds,0 <= x /\ x <= 100
 l0 : 0 <= T.lo
 h0 : 0 <= T.hi
 s0 : 0 <= T.st
 l4 : T.lo <= 100
 h4 : T.hi <= 100
 s4 : T.st <= 100
theorem getD_mem {α : Type} {l : List α} {i : Nat} {d : α} (h : i < l.length) : l.getD i d ∈ l := by
 rw [List.getD_eq_getElem?_getD,List.getElem?_eq_getElem h]; exact List.getElem_mem h
def OT (d : PyData) : Bool := match d with | .int i => decide (0 <= i) | _ => false
theorem Ed {P : PL} {S : SY} (ok : P.ok) {n : Nat} (so : S.ok n) : BG (terms P S) := by
 have h0 := ok.lo0
 have h1 := ok.ls
 have h2 := ok.sh
 have h3 := ok.h4
 refine ⟨JW so,fun r hr => ⟨by rw [(FA ok r hr).2]; show P.bs.length = (P.bs.map (·.2)).length; rw [List.length_map],fun c hc => by have := (FA ok r hr).1 c hc; omega⟩,by show (P.bs.map (·.2)).length <= 4; rw [List.length_map]; exact ok.b4,fun c hc => ?_,fun x hx => ?_,h0,?_,?_,?_,?_,?_⟩
 ·obtain ⟨q,hq,rfl⟩ := List.mem_map.mp hc
  have := ok.b q hq
  omega
 ·have := FB ok so x hx; omega
 ·show 0 <= P.hi; omega
 ·show 0 <= P.st; omega
 ·show P.lo <= 100; omega
 ·show P.hi <= 100; omega
 ·show P.st <= 100; omega
theorem OU {xs : List V} : Bh xs (some 1) none = xs.drop 1 := by
 have e1 : HT.sIx xs.length xs.length none = xs.length := rfl
 have e2 : HT.sIx xs.length 0 (some 1) = min 1 xs.length := HT.sIx_nat _ _ 1
 unfold Bh
 rw [e1,e2]
 cases xs with
 | nil => rfl
 | cons a l => rw [Nat.min_eq_left (by simp)]; simp
end MF
end
section
namespace L2
open PySem PySem.Spec PyProof.Rows
variable {X : Cx} {σ : St} {H : Hp} {kvs : List (AO × V)} {te : TE}
theorem OV : entryFor table "dict_itemiterator.__iter__" = some Builtin.«dict_keyiterator.__iter__» := entryFor_alias (id' := "dict_keyiterator.__iter__") (by kernel_rfl) rfl (by decide +kernel) (by kernel_rfl)
theorem OW {P : Program} {w : World} {k : AO} {v : Value} (h : (Bq P w).is k v = true) : Aw (kV k) v := by
 rw [La] at h
 rcases CI h with ⟨i,t,rfl,rfl⟩ | ⟨x,t,rfl,rfl⟩
 ·exact ⟨t,rfl⟩
 ·exact ⟨t,rfl⟩
theorem KV.get {κ : Type} : ∀ {ks : List (κ × V)} {vs : List (κ × Value)} {i : Nat} {q : κ × V},KV ks vs -> ks[i]? = some q -> ∃ u,vs[i]? = some (q.1,u) /\ Aw q.2 u
 | _,_,_,_,.nil,e => by simp at e
 | _,_,0,_,.cons (b := b) r _,e => by
  simp at e; subst e
  exact ⟨b.2,by rw [r.1]; rfl,r.2⟩
 | _,_,i + 1,q,.cons _ t,e => by
  obtain ⟨u,h1,h2⟩ := KV.get (i := i) (q := q) t (by simpa using e)
  exact ⟨u,by simpa using h1,h2⟩
theorem Ac.dictAt {pins : List (Addr × Obj)} {s : Shared} {d : Addr} {o : Obj} {es : Array DictEntry} {ep : Nat} (I : Ac X pins σ H s) (h : H d = some (.frz o (.dK kvs))) (ho : o.data = .dict es ep) :
  ∃ vs,KV kvs vs /\ s.heap.DictAt (Bq X.prog X.w) d vs ep := by
 obtain ⟨e,_,_,vs,kv,o',es',ep',e',c,dd,r⟩ := (show ObjOk X.prog X.w H s.heap d (.frz o (.dK kvs)) from I.hok d _ h)
 rw [e] at e'; cases e'
 rw [ho] at dd; cases dd
 exact ⟨vs,kv,o,es,e,c,ho,r⟩
def HP (d : Addr) (o : Obj) (kvs : List (AO × V)) : It :=
 ⟨fun i H => H d = some (.frz o (.dK kvs)) /\ i < kvs.length,fun i H v H' => ∃ T q,v = .ref T /\ H T = none /\ kvs[i]? = some q /\ H' = upd H T (.tup [kV q.1,q.2]),fun i H => H d = some (.frz o (.dK kvs)) /\ kvs.length = i⟩
theorem OX {P : Program} {w : World} {K : PySem.W.Frag} {es : List Expr} {k : Nat} {pos : Pos} {o : Obj} {kvs : List (AO × V)} {es0 : Array DictEntry} {ep : Nat} (d it : Addr) (ho : o.data = .dict es0 ep) (hdi : d ≠ it) :
  CJ P w K (.Tuple es k pos) (HP d o kvs) [it] it (fun i h => ∃ ok ov,IsItemIter h it d i kvs.length ep ok ov) where
 mem := by simp
 obj := fun i h st b hb => by
  obtain ⟨ok,ov,he⟩ := st
  rw [List.mem_singleton.mp hb]
  exact ⟨_,he,fun v z => by
   have z' : Data.fields _ = Data.cell v := z
   cases z'⟩
 keep := fun i h h' st kk => by obtain ⟨ok,ov,he⟩ := st; exact ⟨ok,ov,kk it (by simp) _ he⟩
 item := by
  intro X hP hw hK hc i pins s σ H E I hf st hg
  subst hP hw
  obtain ⟨ok,ov,he⟩ := st
  obtain ⟨hd,hlt⟩ := hg
  obtain ⟨vs,kv,hm⟩ := I.dictAt hd ho
  have hl : kvs.length = vs.length := Paired.length kv
  have hq : kvs[i]? = some kvs[i] := by simp [hlt]
  obtain ⟨u,hu,ru⟩ := kv.get hq
  rw [hl] at he
  refine wpAny_pyNext_items_item he hm hu fun key h1 hkey hout htup hsz hk => ⟨_,rfl,wpAny_letOwnedTupleGo_items hout fun h2 he2 hs2 => ?_⟩
  have hiH : it < s.heap.objs.size := Heap.lt_size he
  have kk : ∀ b ob,b ∉ [it] -> s.heap.get? b = some ob -> h2.get? b = some ob := fun b ob hb q => hs2.extBut b ob (fun z => hb (by rw [z]; simp)) (hk b ob (fun z => hb (by rw [z]; simp)) q)
  have ht2 : IsTup h2 s.heap.objs.size [key,u].toArray := ⟨_,(hs2.2 _ (Nat.ne_of_gt hiH)).trans htup,rfl,_,rfl⟩
  exact ⟨.ref s.heap.objs.size,upd H s.heap.objs.size (.tup [kV kvs[i].1,kvs[i].2]),I.yielded (tk := s.toks) (fun b hb => hf b hb) kk (Nat.le_refl _) ht2 (.cons (OW hkey) (.cons ru .nil)) (by show 2 <= sizeLine; decide),rfl,
   ⟨_, kvs[i], rfl, I.hok.fresh (Nat.le_refl _), hq, rfl⟩, ⟨key, u, by rw [hl]; exact he2⟩, fun b hb => by
    rw [List.mem_singleton.mp hb,Ap (Nat.ne_of_lt hiH)]; exact (hf it (by simp)).1⟩
 done := by
  intro X hP hw hK hc i pins s σ H E I hf st hg
  subst hP hw
  obtain ⟨ok,ov,he⟩ := st
  obtain ⟨hd,hlt⟩ := hg
  obtain ⟨vs,kv,hm⟩ := I.dictAt hd ho
  have hl : kvs.length = vs.length := Paired.length kv
  rw [hl] at he
  refine wpAny_pyNext_items_end (I.ok.hd hc) he hm (by rw [List.getElem?_eq_none]; omega) fun h' he' => ⟨rfl,I.ended (tk := s.toks) (fun b hb => hf b hb) fun b ob hb q => he' b ob (fun z => hb (by rw [z]; simp)) q⟩
 self := fun A i s Q E st h => by
  obtain ⟨ok,ov,he⟩ := st
  have hT : s.TypeIs (.ref it) "dict_itemiterator" := ⟨_,he,rfl⟩
  refine wpAny_pyIter_slot hT F.slot_dict_itemiterator_iter (wpAny_call_entry F.slot_dict_itemiterator_iter hT OV ?_ (F.args_dict_itemiterator_iter_1 _))
  show wpAny _ _ (ret (.ref it)) _ _ s
  exact wpAny_pure ⟨_,rfl,"dict_itemiterator",_,hT,F.slot_dict_itemiterator_next.lookup,h⟩
def OY (te : TE) : TI := fun σ H R => te σ H fun x H1 => ∃ d o kvs,x = .ref d /\ H1 d = some (.frz o (.dK kvs)) /\ R (HP d o kvs) H1
theorem Ki {es : List Expr} {k : Nat} {pos' apos cpos : Pos} {e : Expr} (he : PE X e te) (hbase : attributeBase e "items" X.env (eval e X.env) = eval e X.env := by rfl) (hline : (apos.endLine == cpos.line) = true := by rfl) :
  PI X (.Tuple es k pos') (.Call (.Attribute e "items" apos) [] [] cpos) (OY te) := by
 intro pins s σ H R I h
 refine wpAny_Call_method0_late hbase hline (Ar (he pins s σ H _ I h) fun v s1 ⟨x,H1,I1,r1,d,o,kvs,ex,hd,q⟩ => ?_)
 subst ex
 cases r1
 obtain ⟨eo,_,hsys,vs0,kv0,hm0⟩ := (show ObjOk X.prog X.w H1 s1.heap d (.frz o (.dK kvs)) from I1.hok d _ hd)
 obtain ⟨o',es0,ep,e',c,dd,r⟩ := id hm0
 have eoo : o' = o := by rw [eo] at e'; exact (Option.some.inj e').symm
 subst eoo
 refine ⟨"dict","dict.items",F.plainAttrs_dict,F.slot_dict_items,F.type_dict_items,hm0.typeIs,hm0.mapOf.noDict,?_⟩
 refine method_meetsIn F.slot_dict_items F.entry_dict_items rfl (PySem.evalArgs_none ⟨rfl,hm0.typeIs,F.args_dict_items_1 _,_,meets_dict_items (Bq X.prog X.w) d hsys,⟨_,hm0⟩,?_⟩)
 have hlt := Heap.lt_size eo
 have hz : (s1.heap.push { cls := .type "dict_items",data := .fields #[.ref d] }).objs.size = s1.heap.objs.size + 1 := Heap.size_push ..
 have hm1 : s1.heap.DictAt (Bq X.prog X.w) d vs0 ep := ⟨o',es0,eo,c,dd,r⟩
 refine wpAny_pyIter_items (knd := Bq X.prog X.w) (d := d) (kvs := vs0) (ep := ep) ⟨_,Heap.get?_push_size _ rfl,rfl,rfl⟩ (hm1.push _) ?_
 have hl : kvs.length = vs0.length := Paired.length kv0
 dsimp only
 have kk : ∀ b ob,s1.heap.get? b = some ob -> ((s1.heap.push { cls := .type "dict_items",data := .fields #[.ref d] }).push { cls := .type "dict_itemiterator",data := .fields #[.none,.bool false,.ref d,.int 0 0,.int vs0.length 0,.int ep 0,.none,.none] }).get? b = some ob := fun b ob q => Heap.get?_push_of_some _ (Heap.get?_push_of_some _ q)
 have hit : ((s1.heap.push { cls := .type "dict_items",data := .fields #[.ref d] }).push { cls := .type "dict_itemiterator",data := .fields #[.none,.bool false,.ref d,.int 0 0,.int vs0.length 0,.int ep 0,.none,.none] }).get? (s1.heap.objs.size + 1) = some { cls := .type "dict_itemiterator",data := .fields #[.none,.bool false,.ref d,.int 0 0,.int vs0.length 0,.int ep 0,.none,.none] } := by
  rw [<- hz]; exact Heap.get?_push_size _ rfl
 rw [hz]
 generalize (s1.heap.push { cls := .type "dict_items",data := .fields #[.ref d] }).push { cls := .type "dict_itemiterator",data := .fields #[.none,.bool false,.ref d,.int 0 0,.int vs0.length 0,.int ep 0,.none,.none] } = h2 at kk hit
 refine ⟨s1.heap.objs.size + 1,[s1.heap.objs.size + 1],_,_,H1,rfl,I1.kept (t' := s1.toks) kk,OX (o := o') (kvs := kvs) d (s1.heap.objs.size + 1) dd (Nat.ne_of_lt (Nat.lt_succ_of_lt hlt)),⟨.none,.none,by rw [hl]; exact hit⟩,fun b hb => ?_,q⟩
 rw [List.mem_singleton.mp hb]; exact I1.fpOk (Nat.le_succ _) (I1.hok.fresh (Nat.le_succ _))
theorem Kj {d : Addr} {o : Obj} {cap : List (Option Nat)} {g : TG} {tt : TT} {Q : List V -> Hp -> Prop} (Pv : Nat -> List V -> Hp -> Prop) (hn : kvs.length <= 100000) (h0 : Pv 0 [] H) (hz : ∀ i zs H,Pv i zs H -> zs.length <= i)
  (hl : ∀ i zs H,Pv i zs H -> H d = some (.frz o (.dK kvs)))
  (hs : ∀ i q zs H T,kvs[i]? = some q -> Pv i zs H -> H T = none -> g (.ref T) (AJ cap σ) (upd H T (.tup [kV q.1,q.2])) fun σ2 H2 => Keep (AJ cap σ) σ2 /\ tt σ2 H2 fun b H3 => br b (te σ2 H3 fun y H4 => Pv (i + 1) (zs ++ [y]) H4) (Pv (i + 1) zs H3))
  (hd : ∀ zs H,Pv kvs.length zs H -> Q zs H) : DA (HP d o kvs) cap g tt te σ Q H :=
 DV kvs.length Pv hn h0 hz (fun i zs H hi p => ⟨⟨hl i zs H p,hi⟩,fun v H' ⟨T,q,e,n,hq,y⟩ => by
  subst e y
  exact hs i q zs H T hq p n⟩)
  fun zs H p => ⟨⟨hl _ zs H p,rfl⟩,hd zs H p⟩
end L2
end
section
namespace L2
open PySem PySem.Spec PyProof.Rows
variable {k : AO} {v : V} {u : Value} {P : Program} {h : Heap} {a : Addr} {vs : List (AO × Value)} {Y : Cx} {PB : List (Addr × Obj)} {σ : St} {H : Hp}
abbrev KL := List (AO × V)
def BS (ks : KL) (k : AO) (v : V) : KL := if ks.any (fun q => q.1 = k) then ks.map (fun q => if q.1 = k then (q.1,v) else q) else ks ++ [(k,v)]
theorem KV.anyK : ∀ {ks : KL} {vs : List (AO × Value)},KV ks vs -> ks.any (fun q => q.1 = k) = vs.any (fun q => q.1 = k)
 | _,_,.nil => rfl
 | _,_,.cons r t => by rw [List.any_cons,List.any_cons,KV.anyK t,r.1]
theorem KV.mapK (h : Aw v u) : ∀ {ks : KL} {vs : List (AO × Value)},KV ks vs -> KV (ks.map fun q => if q.1 = k then (q.1,v) else q) (vs.map fun q => if q.1 = k then (q.1,u) else q)
 | _,_,.nil => .nil
 | _,_,.cons (a := a) (b := b) r t => by
  rw [List.map_cons,List.map_cons]
  refine .cons ?_ (KV.mapK h t)
  rw [<- r.1]
  split
  ·exact ⟨r.1 ▸ rfl,h⟩
  ·exact r
theorem KV.snoc {κ : Type} {q : κ × V} {p : κ × Value} (h : q.1 = p.1 /\ Aw q.2 p.2) : ∀ {ks : List (κ × V)} {vs : List (κ × Value)},KV ks vs -> KV (ks ++ [q]) (vs ++ [p])
 | _,_,.nil => .cons h .nil
 | _,_,.cons r t => .cons r (KV.snoc h t)
theorem KV.put (h : Aw v u) {ks : KL} {vs : List (AO × Value)} (r : KV ks vs) : KV (BS ks k v) (stored vs k u) := by
 unfold BS stored
 rw [r.anyK]
 split
 ·exact KV.mapK h r
 ·exact KV.snoc ⟨rfl,h⟩ r
theorem Kk (ks : KL) (k : AO) (v : V) : (BS ks k v).length <= ks.length + 1 := by
 unfold BS
 split
 ·rw [List.length_map]; omega
 ·rw [List.length_append]; simp
theorem OZ (P : Program) (w : World) (h : Aw (kV k) u) : (Bq P w).is k u = true := by
 cases k with
 | inl i => obtain ⟨t,rfl⟩ := h; exact Iw P w i t
 | inr x => obtain ⟨t,rfl⟩ := h; exact Lb P w x t
section
variable {prog : Program} {w : World} {A : Around} {R : Result -> Shared -> Prop} {s : Shared} {kx vx tg it : Expr} {ifs : List Expr} {sc : Scope} {ps : Pos} {itv : Value} {D : Addr} {env : Env}
theorem Pa (ht : ∀ v,letOwnedTupleGo tg itv v = pure ()) (I : Nat -> Shared -> Prop)
  (turn : ∀ n s, I n s -> wpAny (model prog w) A (pyNext itv) (fun r s1 => match r with
   | none => R (.ok .next) s1
   | some v => wpAny (model prog w) A (letOwnedTupleGo tg itv v) (fun _ s2 => wpAny (model prog w) A (assign tg env v) (fun _ s3 =>
     wpAny (model prog w) A (forIn ifs true fun c r => if r = true then do let ok <- isTrue c env (eval c env); pure (ForInStep.yield ok) else pure (ForInStep.yield r)) (fun ok s4 =>
      if ok = true then wpAny (model prog w) A (eval kx env) (fun kv s5 => wpAny (model prog w) A (eval vx env) (fun vv s6 => wpAny (model prog w) A (dictSet D kv vv) (fun _ s7 => ∃ m,m < n /\ I m s7) (fun _ _ => False) s6) (fun _ _ => False) s5) (fun _ _ => False) s4
      else ∃ m,m < n /\ I m s4) (fun _ _ => False) s3) (fun _ _ => False) s2) (fun _ _ => False) s1) (fun _ _ => False) s)
  (n : Nat) (h : I n s) : codeAny (model prog w) A (.compLoop (.DictComp kx vx [⟨tg,it,ifs,0⟩] sc ps) 0 itv (.ref D) env) R s := by
 refine codeAny_compLoop_testsD I (fun m s0 hI => wpAny_mono (turn m s0 hI) (fun r s1 h1 => ?_) fun _ _ z => z.elim) n h ht
 cases r with
 | none => exact h1
 | some v =>
  have both := wpAny_bind h1
  rw [ht v,pure_bind] at both
  refine wpAny_mono both (fun _ s3 h3 => wpAny_mono h3 (fun ok s4 h4 => ?_) fun _ _ z => z.elim) fun _ _ z => z.elim
  cases ok with
  | false => exact h4
  | true => exact wpAny_mono h4 (fun kv s5 h5 => wpAny_mono h5 (fun vv s6 h6 => wpAny_mono h6 (fun _ _ z => z) fun _ _ z => z.elim) fun _ _ z => z.elim) fun _ _ z => z.elim
end
structure GrownD (Y : Cx) (a : Addr) (PB : List (Addr × Obj)) (σ : St) (zs : KL) (H : Hp) (s : Shared) : Prop where
 inv : Ac Y PB σ H s
 no : H a = none
 len : zs.length <= sizeLine
 at' : ∃ o vs,s.heap.get? a = some o /\ KV zs vs /\ s.heap.DictOf (Bq Y.prog Y.w) a vs
def DictO (P : Program) (w : World) (o : Obj) (vs : List (AO × Value)) : Prop := ∃ es ep,o.ExactDict /\ o.data = .dict es ep /\ KeysOf (Bq P w) es /\ Pairs (Bq P w) es.toList vs /\ (vs.map (·.1)).Nodup
theorem DictO.of {w : World} {o : Obj} (d : h.DictOf (Bq P w) a vs) (e : h.get? a = some o) : DictO P w o vs := by
 obtain ⟨o',es,ep,e',r⟩ := d
 rw [e] at e'; cases e'
 exact ⟨es,ep,r⟩
theorem DictO.to {w : World} {o : Obj} (d : DictO P w o vs) (e : h.get? a = some o) : h.DictOf (Bq P w) a vs := by
 obtain ⟨es,ep,r⟩ := d
 exact ⟨o,es,ep,e,r⟩
theorem GrownD.pin {zs : KL} {s : Shared} {o : Obj} (A : CV Y a) (g : GrownD Y a PB σ zs H s) (e : s.heap.get? a = some o) (d : DictO Y.prog Y.w o vs) : Ac Y ((a,o) :: PB) σ H s :=
 g.inv.pins_of fun p hp => by
  rcases List.mem_cons.mp hp with rfl | hp
  ·exact ⟨e,g.no,A.loc,A.fs,fun v z => by
    obtain ⟨es,ep,_,dd,_⟩ := d
    have z' : o.data = .cell v := z
    rw [dd] at z'; cases z'⟩
  ·exact g.inv.pin p (List.mem_append_right _ hp)
theorem Ac.grownD {zs : KL} {s : Shared} {o : Obj} (I : Ac Y ((a,o) :: PB) σ H s) (hz : zs.length <= sizeLine) (v : KV zs vs) (d : DictO Y.prog Y.w o vs) : GrownD Y a PB σ zs H s := by
 have q := I.pin (a,o) (List.mem_append_right _ List.mem_cons_self)
 exact ⟨I.pins_of fun p hp => I.pin p (List.mem_append_right _ (List.mem_cons_of_mem _ hp)),q.2.1,hz,o,vs,q.1,v,d.to q.1⟩
def Kl (wi : TI) (cap : List (Option Nat)) (g : TG) (tt : TT) (tk te : TE) : St -> Hp -> (KL -> Hp -> Prop) -> Prop := fun σ H Q => wi σ H fun J H1 =>
 ∃ W : Nat -> Nat -> KL -> Hp -> Prop,(∃ m,W 0 m [] H1) /\ ∀ i m ys H,W i m ys H ->
  (J.stop i H /\ Q ys H) \/
  (J.go i H /\ ys.length < sizeLine /\ ∃ N : KL -> Hp -> Prop, (∀ ys' H', N ys' H' -> ∃ m', m' < m /\ W (i + 1) m' ys' H') /\ ∀ x H', J.yld i H x H' -> g x (AJ cap σ) H' fun σ2 H2 => Keep (AJ cap σ) σ2 /\ tt σ2 H2 fun b H3 =>
   br b (tk σ2 H3 fun k H4 => te σ2 H4 fun y H5 => ∃ kk,k = kV kk /\ N (BS ys kk y) H5) (N ys H3))
theorem Pb {kx vx tg it : Expr} {ifs : List Expr} {sc : Scope} {ps : Pos} {m0 : Nat} {Y : Cx} {a jt : Addr} {PB : List (Addr × Obj)} {g : TG} {tt : TT} {tk te : TE} {fp : List Addr} {tn : Nat -> Heap -> Prop} {J : It} {W : Nat -> Nat -> KL -> Hp -> Prop} {σ : St} {ys : KL} {H : Hp} {s : Shared} {N : KL -> Hp -> Prop} {R : Result -> Shared -> Prop}
  (A : CV Y a) (hnm : ∀ itv v,letOwnedTupleGo tg itv v = pure ()) (hPB : ∀ p ∈ PB,p.1 ≠ a) (hx : Y.xe = fun _ _ => False) (hg : PG Y tg g) (htt : BQ Y ifs tt) (hk : PE Y kx tk) (he : PE Y vx te)
  (T : CJ Y.prog Y.w Y.K tg J fp jt tn) (na : ∀ b ∈ fp,b ≠ a) (fpY : ∀ {o : Obj} {H' : Hp},(∀ b ∈ fp,H' b = none) -> ∀ b ∈ fp,Bs Y ((a,o) :: PB) H' b) (st : tn 0 s.heap) (gr : GrownD Y a PB σ ys H s) (hn : ∀ b ∈ fp,H b = none) (w0 : W 0 m0 ys H)
  (turn : ∀ j m zs H,W j m zs H -> (J.stop j H /\ N zs H) \/ (J.go j H /\ zs.length < sizeLine /\ (∃ N2 : KL -> Hp -> Prop,(∀ zs' H',N2 zs' H' -> ∃ m',m' < m /\ W (j + 1) m' zs' H') /\ ∀ x H',J.yld j H x H' -> g x σ H' fun σ3 H2 => Keep σ σ3 /\ tt σ3 H2 fun b H3 => br b (tk σ3 H3 fun k H4 => te σ3 H4 fun y H5 => ∃ kk,k = kV kk /\ N2 (BS zs kk y) H5) (N2 zs H3))))
  (back : ∀ zs H' s',GrownD Y a PB σ zs H' s' -> N zs H' -> R (.ok .next) s') : codeAny (model Y.prog Y.w) Y.A (.compLoop (.DictComp kx vx [⟨tg,it,ifs,0⟩] sc ps) 0 (.ref jt) (.ref a) Y.env) R s := by
 refine Pa (hnm _) (fun n' s' => ∃ (j : Nat) (zs : KL) (H' : Hp),GrownD Y a PB σ zs H' s' /\ tn j s'.heap /\ (∀ b ∈ fp,H' b = none) /\ W j n' zs H') ?_ m0 ⟨0,ys,H,gr,st,hn,w0⟩
 rintro n' s12 ⟨j,zs,H12,g12,st12,fr12,w12⟩
 obtain ⟨o12,vs12,e12,v12,d12⟩ := g12.at'
 have do12 := DictO.of d12 e12
 have I12 := g12.pin A e12 do12
 rcases turn j n' zs H12 w12 with ⟨stop,q⟩ | ⟨go2,hz0⟩
 ·refine Ar (T.done Y rfl rfl rfl A.calm j _ s12 _ H12 _ I12 (fpY fr12) st12 stop) fun r s13 ⟨hr,I13⟩ => ?_
  subst hr
  exact back zs H12 s13 (Ac.grownD I13 g12.len v12 do12) q
 ·obtain ⟨hC,N2,hN2,step2⟩ := hz0
  refine Ar (T.item Y rfl rfl rfl A.calm j _ s12 _ H12 _ I12 (fpY fr12) st12 go2) fun r s13 ⟨u2,hr,h13⟩ => ?_
  subst hr
  refine Ar h13 fun _ s14 ⟨x2,H14,I14,r14,y14,st14,fr14⟩ => ?_
  have I14' := I14.pinned (fpY fr14) (T.obj _ _ st14)
  have hgY := hg _ s14 _ H14 x2 u2 _ I14' r14 (step2 x2 H14 y14)
  rw [hx] at hgY
  refine Ar hgY fun _ s15 ⟨σ15,H15,I15,kp2,q15⟩ => ?_
  have htY := htt _ s15 σ15 H15 _ I15 q15
  rw [hx] at htY
  refine Ar htY fun b2 s16 ⟨H16,I16,q16⟩ => ?_
  have pn : ∀ p ∈ PB ++ Ct fp s14.heap,p.1 ≠ a := fun p hp => by
   rcases List.mem_append.mp hp with hp | hp
   ·exact hPB p hp
   ·exact na p.1 (GM hp).1
  have back2 : ∀ {σ' : St} {zs' : KL} {H' : Hp} {s' : Shared},Keep σ σ' -> GrownD Y a (PB ++ Ct fp s14.heap) σ' zs' H' s' -> N2 zs' H' -> ∃ m,m < n' /\ ∃ (j : Nat) (zs : KL) (H' : Hp),GrownD Y a PB σ zs H' s' /\ tn j s'.heap /\ (∀ b ∈ fp,H' b = none) /\ W j m zs H' := fun {σ' zs' H' s'} kp G n2 => by
   obtain ⟨m',hm,w16⟩ := hN2 _ _ n2
   refine ⟨m',hm,j + 1,zs',H',⟨(G.inv.pins_of fun p hp => G.inv.pin p (List.mem_append_right _ (List.mem_append_left _ hp))).weak (by rw [kp.len]) fun i v e => kp.get e,G.no,G.len,G.at'⟩,T.keep _ _ _ st14 fun b hb o e => (G.inv.pin (b,o) (List.mem_append_right _ (List.mem_append_right _ (DP hb e)))).1,fun b hb => ?_,w16⟩
   obtain ⟨o,e,d⟩ := T.obj _ _ st14 b hb
   exact (G.inv.pin (b,o) (List.mem_append_right _ (List.mem_append_right _ (DP hb e)))).2.1
  have g16 : GrownD Y a (PB ++ Ct fp s14.heap) σ15 zs H16 s16 := Ac.grownD I16 g12.len v12 do12
  cases b2 with
  | false =>
   rw [if_neg Bool.false_ne_true]
   exact back2 kp2 g16 (q16.2 rfl)
  | true =>
   rw [if_pos rfl]
   have hkY := hk _ s16 σ15 H16 _ I16 (q16.1 rfl)
   rw [hx] at hkY
   refine Ar hkY fun kv s17 ⟨kval,H17,I17,r17,q17⟩ => ?_
   have heY := he _ s17 σ15 H17 _ I17 q17
   rw [hx] at heY
   refine Ar heY fun yv s18 ⟨y,H18,I18,r18,kk,ek,n18⟩ => ?_
   subst ek
   have G18 := Ac.grownD I18 g12.len v12 do12
   have e18 := (I18.pin (a,o12) (List.mem_append_right _ List.mem_cons_self)).1
   refine wpAny_dictSet_pairs (hsz := by rw [<- Paired.length v12]; exact g12.len) (OZ Y.prog Y.w r17) (do12.to e18) fun h6 d6 hs6 => ?_
   have I19 : Ac Y (PB ++ Ct fp s14.heap) σ15 H18 { s18 with heap := h6,toks := s18.toks + 1 } :=
    G18.inv.turned (t' := s18.toks + 1) (it := a) (fun b o hb e => hs6.extBut b o hb e) G18.no A.loc A.sz A.cell fun p hp z => by
     rw [A.pn,List.nil_append] at hp
     exact pn p hp z
   obtain ⟨o6,es6,ep6,e6,r6⟩ := id d6
   exact back2 kp2 ⟨I19,G18.no,by have := Kk zs kk y; omega,o6,_,e6,KV.put r18 v12,d6⟩ n18
theorem Pc {X : Cx} {tg iter kx vx : Expr} {ifs : List Expr} {scope : Scope} {pos pos' : Pos} {wi : TI} {g : TG} {tt : TT} {tk te : TE} {N' : List Str} {cap : List (Option Nat)} {use : Option (Value -> Sem Unit)} {Q' : Value -> Shared -> Prop}
  {pins : List (Addr × Obj)} {s : Shared} {σ : St} {H : Hp} {Q : KL -> Hp -> Prop}
  (hc : X.calm = true) (hi : PI X tg iter wi) (B : AM X.env.scope X.N scope N' cap) (hg : ∀ s H ex C,PG (AL X N' scope s H ex C) tg g) (ht : ∀ s H ex C,BQ (AL X N' scope s H ex C) ifs tt)
  (hk : ∀ s H ex C,PE (AL X N' scope s H ex C) kx tk) (he : ∀ s H ex C,PE (AL X N' scope s H ex C) vx te)
  (hnm : ∀ itv v,letOwnedTupleGo tg itv v = pure ()) (hs : ∀ x,foldedSetIterable iter X.env x = pure x) (I : Ac X pins σ H s)
  (h : Kl wi cap g tt tk te σ H Q)
  (fin : ∀ (acc C : Addr) (H : Hp) (ys : KL) (o : Obj) (s' : Shared),H acc = none -> Ac X pins σ (upd H acc (.frz o (.dK ys))) s' -> Fi X pins C (upd H acc (.frz o (.dK ys))) s' -> Q ys H -> compPost (model X.prog X.w) X.A X.xe use Q' (.ref acc) C (.ok .next) s') :
  wpAny (model X.prog X.w) X.A (comprehension (.DictComp kx vx [⟨tg,iter,ifs,0⟩] scope pos) scope X.env pos' newDict false (eval iter X.env) use) Q' X.xe s := by
 have hclos : closureFor scope X.env = pure (AR X.env.cells scope.names []) := Hf fun y hy hf => I.ok.has y.1 (B.free y hy hf)
 refine wpAny_comprehension_free (cl := AR X.env.cells scope.names []) rfl hs hclos B.kind B.names (Ar (hi pins s σ H _ I h) fun v s1 h1 => Ar h1 fun itv s2 h2 => ?_)
 obtain ⟨it,fp,tn,J,H2,e,I2,T,st2,f2,W,⟨m0,w0⟩,turn⟩ := h2
 subst e
 refine wpAny_newObj_type (Jm ?_)
 dsimp only
 generalize hH3 : s2.heap.push { cls := .type "dict",dict := none,data := .dict #[] } = h3
 have hsz3 : h3.objs.size = s2.heap.objs.size + 1 := by rw [<- hH3]; exact Heap.size_push ..
 have hk3 : ∀ b o,s2.heap.get? b = some o -> h3.get? b = some o := fun b o e => by rw [<- hH3]; exact Heap.get?_push_of_some _ e
 have hacc3 : h3.get? s2.heap.objs.size = some { cls := .type "dict",data := .dict #[] } := by rw [<- hH3]; exact Heap.get?_push_size _ rfl
 have hlt : ∀ b ∈ fp,b < s2.heap.objs.size := fun b hb => let ⟨o,e,_⟩ := T.obj _ _ st2 b hb; Heap.lt_size e
 have I4 := Jo I2 B f2 hlt hk3 (by rw [hsz3]; exact Nat.le_succ _)
 have acc4 : (pushCells (h3.push { cls := .type "dict",data := .dict #[] }) scope.names).get? s2.heap.objs.size = some { cls := .type "dict",data := .dict #[] } := pushCells_keeps _ _ _ _ (Heap.get?_push_of_some _ hacc3)
 have st4 : tn 0 (pushCells (h3.push { cls := .type "dict",data := .dict #[] }) scope.names) := T.keep _ _ _ st2 fun b _ o e => pushCells_keeps _ _ _ _ (Heap.get?_push_of_some _ (hk3 b o e))
 have dict4 : (pushCells (h3.push { cls := .type "dict",data := .dict #[] }) scope.names).DictOf (Bq X.prog X.w) s2.heap.objs.size [] := Heap.DictOf.at (hH3 ▸ Heap.DictOf.new s2.heap) fun o e => pushCells_keeps _ _ _ _ (Heap.get?_push_of_some _ e)
 have haC : s2.heap.objs.size ≠ h3.objs.size := by rw [hsz3]; exact Nat.ne_of_lt (Nat.lt_succ_self _)
 have haN : s2.heap.objs.size ∉ AE X.stack := fun z => by
  rcases List.mem_cons.mp (I2.stkSub _ z) with q | q
  ·exact absurd I2.lt (by rw [<- q]; exact Nat.lt_irrefl _)
  ·exact I2.nofs (Nat.le_refl _) q
 have okY := I4.ok
 have fpY : ∀ {pins' : List (Addr × Obj)} {H' : Hp},(∀ b ∈ fp,H' b = none) -> (∀ p ∈ pins',p.1 = s2.heap.objs.size) -> ∀ b ∈ fp,Bs (AL X N' scope s2 H2 fp h3.objs.size) pins' H' b := fun {pins' H'} hn hp b hb =>
  ⟨hn b hb, (okY.exf b hb).1, okY.exfs b hb, .inl hb, (okY.exf b hb).2, fun p z e => by
   have z' : p ∈ pins' := z
   have := hlt b hb
   rw [<- e,hp p z'] at this
   exact Nat.lt_irrefl _ this⟩
 have cellNe : ∀ x c,(AL X N' scope s2 H2 fp h3.objs.size).env.cells.lookup x = some c -> c ≠ s2.heap.objs.size := fun x c ec z => by
  rcases DU scope.names (h3.objs.size + 1) _ ec with q' | q'
  ·rw [z,hsz3] at q'
   exact absurd q' (by omega)
  ·have ec' : X.env.cells.lookup x = some c := (Da _ _ q').elim id fun z => nomatch z
   obtain ⟨_,q''⟩ := I2.cell x c ec'
   have := q''.lt
   rw [z] at this
   exact Nat.lt_irrefl _ this
 have loop : ∀ s4 : Shared,s4 = { s2 with heap := pushCells (h3.push { cls := .type "dict",data := .dict #[] }) scope.names } ->
   codeAny (model X.prog X.w) X.A (.compLoop (.DictComp kx vx [⟨tg,iter,ifs,0⟩] scope pos) 0 (.ref it) (.ref s2.heap.objs.size) (Ho scope X.env h3.objs.size)) (compPost (model X.prog X.w) X.A X.xe use Q' (.ref s2.heap.objs.size) h3.objs.size) s4 := by
  rintro s4 rfl
  have A0 : CV (AL X N' scope s2 H2 fp h3.objs.size) s2.heap.objs.size := ⟨haC,haN,.inr (Nat.le_refl _),cellNe,rfl,hc⟩
  refine Pb (Y := AL X N' scope s2 H2 fp h3.objs.size) (PB := []) (W := W) A0 hnm (fun p hp => absurd hp (by simp)) rfl (hg _ _ _ _) (ht _ _ _ _) (hk _ _ _ _) (he _ _ _ _) T (fun b hb z => absurd (hlt b hb) (by rw [z]; exact Nat.lt_irrefl _))
   (fun {o H'} hn b hb => fpY hn (fun p hp => by rw [List.mem_singleton.mp hp]) b hb) st4 ⟨I4,I2.hok.fresh (Nat.le_refl _),Nat.zero_le _,_,[],acc4,.nil,dict4⟩ (fun b hb => (f2 b hb).1) w0 turn fun ys H5 s6 G q => ?_
  obtain ⟨o6,vs6,e6,v5,d6⟩ := G.at'
  have bigA : (s2.heap.objs.size == sysModules) = false := beq_eq_false_iff_ne.mpr (Ne.symm (Nat.ne_of_lt I2.big))
  have fa5 := G.no
  have z5 := G.len
  have I6 := G.inv
  have nacc : ∀ b u,H5 b = some u -> b ≠ s2.heap.objs.size := fun b u q z => by rw [z,fa5] at q; cases q
  have un : Un (AE X.stack) fp H2 (upd H5 s2.heap.objs.size (.frz o6 (.dK ys))) s2.heap s6.heap := by
   have u := I6.base
   refine ⟨u.keep,u.slot,fun b o q n hx => ?_,u.there,fun b xs q => ?_,fun b o xs q => ?_,fun b ps q => ?_⟩
   ·rw [Ap (Nat.ne_of_lt (Heap.lt_size q))]
    exact u.free b o q n hx
   ·have z := u.tups b xs q
    rw [Ap (nacc b _ z)]; exact z
   ·have z := u.frzs b o xs q
    rw [Ap (nacc b _ z)]; exact z
   ·obtain ⟨more,z⟩ := u.tbls b ps q
    exact ⟨more,by rw [Ap (nacc b _ z)]; exact z⟩
  have hok : HOk X.prog X.w (upd H5 s2.heap.objs.size (.frz o6 (.dK ys))) s6.heap := fun b u q => by
   by_cases hb : b = s2.heap.objs.size
   ·subst hb
    rw [Ai] at q; cases q
    exact ⟨e6,z5,bigA,vs6,v5,d6⟩
   ·rw [Ap hb] at q
    have o6 : ObjOk X.prog X.w H5 s6.heap b u := I6.hok b u q
    exact o6.stay (fun _ _ _ e => e) (fun c z => by rw [Ap (nacc c _ z)]; exact z) fun c xs z => by rw [Ap (nacc c _ z)]; exact z
  have IX : Ac X pins σ (upd H5 s2.heap.objs.size (.frz o6 (.dK ys))) s6 := I2.call' (show s6.os = s2.os from I6.os) un hok I6.bare fun b hb => let f := f2 b hb; ⟨f.2.2.2.1,f.2.1,f.2.2.2.2.1,f.2.2.2.2.2⟩
  have hCs : s2.heap.objs.size <= h3.objs.size := by rw [hsz3]; exact Nat.le_succ _
  refine fin _ _ H5 ys o6 s6 fa5 IX ⟨let ⟨m,hn,_⟩ := I6.loc; ⟨m,hn⟩,?_,?_,Nat.le_trans I2.sz hCs,fun x c ec z => ?_,fun p hp z => ?_⟩ q
  ·rw [Ap (Ne.symm haC)]; exact I6.free
  ·exact Nat.ne_of_gt (Nat.lt_of_lt_of_le I2.lt hCs)
  ·obtain ⟨_,q⟩ := I2.cell x c ec
   have := q.lt
   rw [z] at this
   exact absurd (Nat.lt_of_lt_of_le this hCs) (Nat.lt_irrefl _)
  ·have := Heap.lt_size (I2.pin p hp).1
   rw [z] at this
   exact absurd (Nat.lt_of_lt_of_le this hCs) (Nat.lt_irrefl _)
 exact codeAny_compStart_dict (loop _ rfl) (T.self _ 0 _ _ _ st4 (loop _ rfl))
def Pd (wi : TI) (cap : List (Option Nat)) (g : TG) (tt : TT) (tk te : TE) : TE := fun σ H Q => Kl wi cap g tt tk te σ H fun ys H' => ∀ p o,H' p = none -> Q (.ref p) (upd H' p (.frz o (.dK ys)))
theorem Pe {X : Cx} {tg iter kx vx : Expr} {ifs : List Expr} {scope : Scope} {pos : Pos} {wi : TI} {g : TG} {tt : TT} {tk te : TE} (N' : List Str) (cap : List (Option Nat))
  (hc : X.calm = true) (hi : PI X tg iter wi) (B : AM X.env.scope X.N scope N' cap) (hg : ∀ s H ex C,PG (AL X N' scope s H ex C) tg g) (ht : ∀ s H ex C,BQ (AL X N' scope s H ex C) ifs tt) (hk : ∀ s H ex C,PE (AL X N' scope s H ex C) kx tk) (he : ∀ s H ex C,PE (AL X N' scope s H ex C) vx te)
  (hnm : ∀ itv v,letOwnedTupleGo tg itv v = pure () := by intro _ _; rfl) (hs : ∀ x,foldedSetIterable iter X.env x = pure x := by intro _; rfl) : PE X (.DictComp kx vx [⟨tg,iter,ifs,0⟩] scope pos) (Pd wi cap g tt tk te) := by
 intro pins s σ H Q I h
 rw [arm_eval_DictComp]
 refine Pc (use := none) hc hi B hg ht hk he hnm hs I h fun acc C H ys o s' hn I' L q => ?_
 obtain ⟨m,hm⟩ := L.ns
 refine ⟨m,hm,fun h' hsb => ⟨.ref acc,_,I'.turned (t' := s'.toks) (it := C) (fun b o hb e => hsb.extBut b o hb e) L.free L.loc (.inr L.sz) L.cell L.pin,rfl,q acc o hn⟩⟩
end L2
end
section
namespace L2
open PySem PySem.Spec PyProof.Rows
variable {n : Int} {t u v : Tok} {Q : KL -> Hp -> Prop} {a : Addr} {pos : Pos} {σ : St} {H : Hp} {te : TE} {cap : List (Option Nat)} {g : TG} {tt : TT}
section
variable {prog : Program} {w : World} {A : Around} {E : Value -> Shared -> Prop} {s : Shared}
theorem Pf : isSubtype (.type "range_iterator") (.type "reversed") = pure false := by rw [isSubtype_type]; kernel_rfl
abbrev C3 (n : Int) : Obj := { cls := .type "range_iterator",data := .fields #[rawInt (n - 1),rawInt n,rawInt (-1)] }
theorem EQ {z : Int} (h1 : -5000 <= z) (h2 : z <= 5000) : Builtin.Range.rangeFitsLong z = true := by
 unfold Builtin.Range.rangeFitsLong
 simp only [Bool.and_eq_true,decide_eq_true_eq]
 omega
theorem Pg (r : Addr) (n : Int) (t u v : Tok) (h0 : 0 <= n) (h1 : n <= 1000) :
  Meets (Builtin.«range.__reversed__» ⟨[.ref r],[]⟩) (fun _ R s => s.heap.get? r = some { cls := .type "range",dict := none,data := .fields #[.int 0 t,.int n u,.int 1 v],slots := #[] } /\ R (.ok (.ret (Value.ref s.heap.objs.size))) { s with heap := s.heap.push (C3 n),toks := s.toks }) :=
 .of_wp fun prog w A R s h => by
  obtain ⟨hp,g,d,tk,os⟩ := s; obtain ⟨hl,h⟩ := h
  have hn : Builtin.Range.rangeSize 0 n 1 = n := by rw [rangeSize_one]; split <;> omega
  have hsm : (Builtin.Range.rangeFitsLong 0 && Builtin.Range.rangeFitsLong n && Builtin.Range.rangeFitsLong 1 && Builtin.Range.rangeFitsLong (-1) && Builtin.Range.rangeFitsLong (0 - 1) && Builtin.Range.rangeFitsLong (Builtin.Range.rangeSize 0 n 1)) = true := by
   rw [hn,EQ (by omega) (by omega),EQ (by omega) (by omega),EQ (by omega) (by omega),EQ (by omega) (by omega),EQ (by omega) (by omega)]; rfl
  wp_walk
  rw [hsm,hn]
  have e : (0 : Int) + (n - 1) * 1 = n - 1 := by omega
  rw [e]
  simp only [Bool.not_true,Bool.false_eq_true,if_false,if_true]
  wp_walk
  exact ⟨_,rfl,h⟩
theorem Ph {l : Addr} {W : Value -> Shared -> Prop} (hl : IsRange s.heap l 0 n 1 t u v) (h0 : 0 <= n) (h1 : n <= 1000)
  (h : W (.ref s.heap.objs.size) { s with heap := s.heap.push (C3 n) }) : codeAny (model prog w) A (.call (.builtin "reversed.__new__") ⟨[.type "reversed",.ref l],[]⟩) (wants W E) s := by
 have ty : s.TypeIs (.ref l) "range" := ⟨_,hl,rfl⟩
 refine codeAny_call_builtin F.plain_reversed_new F.entry_reversed_new (wpAny_of_eq (F.newCall_reversed_1 (.ref l)) ?_)
 have cls := newClass_reversed (.ref l)
 have look := F.slot_range_reversed.lookup
 have bound := F.slot_range_reversed.bind (.ref l)
 unfold Builtin.«reversed.__new__»
 wp_walk using wpAny_of_eq cls,wpAny_specialOf ty look,wpAny_of_eq bound
 refine codeAny_mono (codeAny_call_builtin (R := fun r s' => r = .ok (.ret (.ref s.heap.objs.size)) /\ s' = { s with heap := s.heap.push (C3 n) }) F.slot_range_reversed.plain F.entry_range_reversed (F.slot_range_reversed.check _ _ _ _ _ _ _ _ ty (F.args_range_reversed_1 _) (Pg l n t u v h0 h1 prog w A.in1 (fun r s' => r = .ok (.ret (.ref s.heap.objs.size)) /\ s' = { s with heap := s.heap.push (C3 n) }) s ⟨hl,rfl,rfl⟩))) fun r s' hr => ?_
 obtain ⟨rfl,rfl⟩ := hr
 exact wpAny_pure h
theorem Pi {l : Addr} {Q : Value -> Shared -> Prop} (hl : IsRange s.heap l 0 n 1 t u v) (h0 : 0 <= n) (h1 : n <= 1000)
  (h : Q (.ref s.heap.objs.size) { s with heap := s.heap.push (C3 n) }) : wpAny (model prog w) A (call (.type "reversed") [.ref l]) Q E s := by
 refine callType_other (U := "range_iterator") (Q₁ := fun obj s₁ => obj = .ref s.heap.objs.size /\ s₁ = { s with heap := s.heap.push (C3 n) }) (by decide +kernel) F.create_reversed ⟨_,_,F.mro_reversed⟩ F.made_reversed Pf (F.typeCall_reversed_1 _) (Ph hl h0 h1 ⟨rfl,rfl⟩) ?_
 rintro obj s₁ ⟨rfl,rfl⟩
 exact ⟨⟨_,Heap.get?_push_size _ rfl,rfl⟩,h⟩
end
section
variable {X : Cx} {tg : Expr}
def Pj (ta : TA) : TI := fun σ H R => ta σ H fun vs H1 => ∃ n : Int,vs = [.int n] /\ 0 <= n /\ n <= 1000 /\ R (EH (n - 1) (-1) n.toNat) H1
theorem Pk {a : Expr} {ta : TA} {p p2 pos2 : Pos} (hg0 : Gl X "reversed") (hm0 : X.mg "reversed" = none) (hg : Gl X "range") (hm : X.mg "range" = none) (ha : PA X [a] ta)
  (hs0 : starEach [.Call (.Name "range" p2) [a] [] pos2] X.env = [(false,eval (.Call (.Name "range" p2) [a] [] pos2) X.env)] := by rfl) (hs : starEach [a] X.env = [(false,eval a X.env)] := by rfl) :
  PI X tg (.Call (.Name "reversed" p) [.Call (.Name "range" p2) [a] [] pos2] [] pos) (Pj ta) := by
 intro pins s σ H R I h
 refine Call_ (Cq I hg0 hm0 boot_reversed (PyProof.Rows.callWith_type1 (by
  rw [hs0]
  refine Calls.spliced_cons (Call_ (Cq I hg hm boot_range (PyProof.Rows.callWith_type1 (Ar (ha pos2 pins s σ H _ I h) fun us s1 ⟨vs,H1,I1,r1,q1⟩ => ?_) hs rfl)))
  obtain ⟨n,e,h0,hn,q⟩ := q1
  subst e
  cases r1 with
  | cons r rr =>
   cases rr
   obtain ⟨t,rfl⟩ := r
   refine call_range_1 (Calls.spliced_nil ?_)
   refine Pi (IsRange.new ..) h0 hn ?_
   dsimp only
   have hz1 : (s1.heap.push { cls := .type "range",data := .fields #[.int 0 s1.toks,.int n t,.int 1 (s1.toks + 1)] }).objs.size = s1.heap.objs.size + 1 := Heap.size_push ..
   have kk : ∀ b ob,s1.heap.get? b = some ob -> ((s1.heap.push { cls := .type "range",data := .fields #[.int 0 s1.toks,.int n t,.int 1 (s1.toks + 1)] }).push (C3 n)).get? b = some ob := fun b ob q => Heap.get?_push_of_some _ (Heap.get?_push_of_some _ q)
   have hit : IsRangeIter ((s1.heap.push { cls := .type "range",data := .fields #[.int 0 s1.toks,.int n t,.int 1 (s1.toks + 1)] }).push (C3 n)) (s1.heap.objs.size + 1) (n - 1) n (-1) := by
    rw [<- hz1]; exact Heap.get?_push_size _ rfl
   rw [hz1]
   generalize (s1.heap.push { cls := .type "range",data := .fields #[.int 0 s1.toks,.int n t,.int 1 (s1.toks + 1)] }).push (C3 n) = h2 at kk hit
   refine wpAny_pyIter_rangeiter hit ⟨s1.heap.objs.size + 1,[s1.heap.objs.size + 1],_,_,H1,rfl,I1.kept (t' := _) kk,Nu _ (n - 1) (-1) n.toNat,?_,fun b hb => ?_,q⟩
   ·have e1 : (n - 1) + ((0 : Nat) : Int) * (-1) = n - 1 := by omega
    have e2 : ((n.toNat : Nat) : Int) - ((0 : Nat) : Int) = n := by omega
    rw [e1,e2]; exact hit
   ·rw [List.mem_singleton.mp hb]; exact I1.fpOk (Nat.le_succ _) (I1.hok.fresh (Nat.le_succ _))) hs0 rfl))
def Pl (i : Int) (te : TE) : TE := fun σ H Q => te σ H fun y H1 => ∀ d o,H1 d = none -> Q (.ref d) (upd H1 d (.frz o (.dK [(.inl i,y)])))
theorem Ac.trackN {pins : List (Addr × Obj)} {s : Shared} {h' : Heap} {tk : Nat} {u : HO} (I : Ac X pins σ H s) (hf : Bs X pins H a)
  (k : ∀ b o,b ≠ a -> s.heap.get? b = some o -> h'.get? b = some o) (ha : ∃ o,h'.get? a = some o) (ok : ObjOk X.prog X.w (upd H a u) h' a u) : Ac X pins σ (upd H a u) { s with heap := h',toks := tk } := by
 have hfr : H a = none := hf.1
 have nT : ∀ b u,H b = some u -> b ≠ a := fun b u e => Bd e hfr
 refine I.step (g' := s.gens) (d' := s.drawn) (ch := [a]) (fun b hb => by rw [List.mem_singleton.mp hb]; exact ⟨hf.2.2.2.1,hf.2.1,hf.2.2.2.2.1,hf.2.2.2.2.2⟩) (fun b o _ _ hc e _ => k b o (fun z => hc (by rw [z]; simp)) e) (fun b o _ _ hc e _ => ⟨o.slots,k b o (fun z => hc (by rw [z]; simp)) e⟩)
  (fun b o hc e n => by rw [Ap (fun z => hc (by rw [z]; simp))]; exact n) (fun b o hc e => ⟨o,k b o (fun z => hc (by rw [z]; simp)) e⟩) (fun b xs e => by rw [Ap (nT b _ e)]; exact e) (fun b o xs e => by rw [Ap (nT b _ e)]; exact e) (fun b ps e => ⟨#[],by rw [Ap (nT b _ e),e]; simp⟩) (fun m hm => ?_) (fun b v e => ?_) I.bare
 ·obtain ⟨o,es,ep,ho,r⟩ := hm
  exact ⟨o,es,ep,k _ o (fun z => hf.2.1 z.symm) ho,r⟩
 ·by_cases hb : b = a
  ·subst hb
   rw [Ai] at e; cases e
   exact ok
  ·rw [Ap hb] at e
   refine (I.hok b v e).stay (fun c v hc q => k c v ?_ q) (fun c q => by rw [Ap (nT c _ q)]; exact q) fun c xs q => by rw [Ap (nT c _ q)]; exact q
   rcases hc with z | z
   ·rw [z]; exact hb
   ·exact nT c _ z
theorem Pm {i : Int} {e : Expr} {p1 : Pos} {j1 : Nat} (he : PE X e te) : PE X (.Dict [some (.Constant (.int i) j1 p1)] [e] pos) (Pl i te) := fun pins s σ H Q I h => by
 refine wpAny_Dict_walk (knd := Bq X.prog X.w) rfl rfl (by simp) (by show 1 <= 15; decide) ?_
 refine pairTrees_cons_walk (wpAny_Constant_int ?_)
 dsimp only
 have hd0 : (s.heap.push { cls := .type "dict",data := .dict #[] }).get? s.heap.objs.size = some { cls := .type "dict",data := .dict #[] } := Heap.get?_push_size _ rfl
 have f0 : Bs X pins H s.heap.objs.size := I.fpOk (Nat.le_refl _) (I.hok.fresh (Nat.le_refl _))
 have I0 : Ac X pins σ H { s with heap := s.heap.push { cls := .type "dict",data := .dict #[] },toks := s.toks + 1 } := I.kept (t' := s.toks + 1) fun b o q => Heap.get?_push_of_some _ q
 have I0' : Ac X ((s.heap.objs.size,{ cls := .type "dict",data := .dict #[] }) :: pins) σ H { s with heap := s.heap.push { cls := .type "dict",data := .dict #[] },toks := s.toks + 1 } := I0.pins_of fun p hp => by
  rcases List.mem_cons.mp hp with rfl | hp
  ·exact ⟨hd0,f0.1,f0.2.1,f0.2.2.1,fun v z => by
    have z' : Data.dict #[] = Data.cell v := z
    cases z'⟩
  ·exact I0.pin p (List.mem_append_right _ hp)
 refine Ar (he _ _ σ H _ I0' h) fun u s1 ⟨y,H1,I1,ry,q⟩ => pairTrees_nil_walk ?_
 have pn := I1.pin (s.heap.objs.size,{ cls := .type "dict",data := .dict #[] }) (List.mem_append_right _ List.mem_cons_self)
 have I2 : Ac X pins σ H1 s1 := I1.pins_of fun p hp => I1.pin p (List.mem_append_right _ (List.mem_cons_of_mem _ hp))
 have f1 : Bs X pins H1 s.heap.objs.size := ⟨pn.2.1,f0.2.1,f0.2.2.1,f0.2.2.2.1,f0.2.2.2.2.1,f0.2.2.2.2.2⟩
 have dn : s1.heap.DictOf (Bq X.prog X.w) s.heap.objs.size [] := Heap.DictOf.at (Heap.DictOf.new s.heap) fun o eo => by rw [hd0] at eo; cases eo; exact pn.1
 refine ⟨[(.inl i,u)],⟨Iw _ _ _ _,rfl,trivial⟩,dn,fun h' hm hsb => ?_⟩
 obtain ⟨o,es,ep,eo,r⟩ := id hm
 exact ⟨.ref s.heap.objs.size,_,I2.trackN (u := .frz o (.dK [(.inl i,y)])) (tk := _) f1 (fun b ob hb q => hsb.extBut b ob hb q) ⟨o,eo⟩ ⟨eo,by show 1 <= sizeLine; decide,beq_eq_false_iff_ne.mpr (Ne.symm (Nat.ne_of_lt I.big)),_,.cons ⟨rfl,ry⟩ .nil,hm⟩,rfl,q _ _ pn.2.1⟩
end
def Km (J : It) (cap : List (Option Nat)) (g : TG) (tt : TT) (tk te : TE) (σ : St) (Q : KL -> Hp -> Prop) (H1 : Hp) : Prop :=
 ∃ W : Nat -> Nat -> KL -> Hp -> Prop,(∃ m,W 0 m [] H1) /\ ∀ i m ys H,W i m ys H ->
  (J.stop i H /\ Q ys H) \/
  (J.go i H /\ ys.length < sizeLine /\ ∃ N : KL -> Hp -> Prop, (∀ ys' H', N ys' H' -> ∃ m', m' < m /\ W (i + 1) m' ys' H') /\ ∀ x H', J.yld i H x H' -> g x (AJ cap σ) H' fun σ2 H2 => Keep (AJ cap σ) σ2 /\ tt σ2 H2 fun b H3 =>
   br b (tk σ2 H3 fun k H4 => te σ2 H4 fun y H5 => ∃ kk,k = kV kk /\ N (BS ys kk y) H5) (N ys H3))
theorem Pn {J : It} {tk : TE} (n : Nat) (Pv : Nat -> KL -> Hp -> Prop) (hn : n <= 100000) (h0 : Pv 0 [] H) (hz : ∀ i ys H,Pv i ys H -> ys.length <= i)
  (hs : ∀ i ys H,i < n -> Pv i ys H -> J.go i H /\ ∀ x H',J.yld i H x H' -> g x (AJ cap σ) H' fun σ2 H2 => Keep (AJ cap σ) σ2 /\ tt σ2 H2 fun b H3 => br b (tk σ2 H3 fun k H4 => te σ2 H4 fun y H5 => ∃ kk,k = kV kk /\ Pv (i + 1) (BS ys kk y) H5) (Pv (i + 1) ys H3))
  (hd : ∀ ys H,Pv n ys H -> J.stop n H /\ Q ys H) : Km J cap g tt tk te σ Q H := by
 refine ⟨fun i m ys H => m = n - i /\ i <= n /\ Pv i ys H,⟨n,by simp,Nat.zero_le _,h0⟩,?_⟩
 rintro i m ys H ⟨rfl,hi,p⟩
 by_cases hlt : i < n
 ·obtain ⟨a,b⟩ := hs i ys H hlt p
  refine .inr ⟨a,?_,Pv (i + 1),fun ys' H' p' => ⟨n - (i + 1),by omega,rfl,hlt,p'⟩,b⟩
  have := hz i ys H p
  have : (100000 : Nat) < sizeLine := by decide
  omega
 ·have e : i = n := by omega
  subst e
  exact .inl (hd ys H p)
theorem Po {K : PySem.W.Frag} {xs : List V} {tk : TE} (Pv : Nat -> KL -> Hp -> Prop) (hn : xs.length <= 100000) (h0 : Pv 0 [] H) (hz : ∀ i ys H,Pv i ys H -> ys.length <= i)
  (hl : ∀ i ys H,i <= xs.length -> Pv i ys H -> Af K H a xs)
  (hs : ∀ i x ys H,xs[i]? = some x -> Pv i ys H -> g x (AJ cap σ) H fun σ2 H2 => Keep (AJ cap σ) σ2 /\ tt σ2 H2 fun b H3 => br b (tk σ2 H3 fun k H4 => te σ2 H4 fun y H5 => ∃ kk,k = kV kk /\ Pv (i + 1) (BS ys kk y) H5) (Pv (i + 1) ys H3))
  (hd : ∀ ys H,Pv xs.length ys H -> Q ys H) : Km (Ds K a) cap g tt tk te σ Q H :=
 Pn xs.length Pv hn h0 hz (fun i ys H hi p => ⟨⟨xs,xs[i],hl i ys H (Nat.le_of_lt hi) p,by simp [hi]⟩,fun x H' ⟨e,y⟩ => by subst e; exact hs i x ys _ (y xs (hl i ys _ (Nat.le_of_lt hi) p)) p⟩)
  fun ys H p => ⟨⟨xs,hl _ ys H (Nat.le_refl _) p,Nat.le_refl _⟩,hd ys H p⟩
end L2
end
section
namespace L2
open PySem PySem.Spec PyProof.Rows SeqAt
def OrdAt (op : CmpOp) (A : Around) (s : Shared) (y x : Value) (b : Bool) : Prop :=
 ∀ (P : Program) (w : World) (E Q : Value -> Shared -> Prop),Q (.bool b) s -> wpAny (model P w) A (richCompare op y x) Q E s
inductive C4 (op : CmpOp) (A : Around) (s : Shared) (last : Bool) : List (Value × Value) -> Bool -> Prop
 | none : C4 op A s last [] last
 | same {x y : Value} {ps : List (Value × Value)} {r : Bool} : EqAt A s x y true -> C4 op A s last ps r -> C4 op A s last ((x,y) :: ps) r
 | unlike {x y : Value} {ps : List (Value × Value)} {r : Bool} : EqAt A s x y false -> OrdAt op A s x y r -> C4 op A s last ((x,y) :: ps) r
theorem OrdAt.gtI {A : Around} {s : Shared} (a b : Int) (t u : Tok) : OrdAt .Gt A s (.int a t) (.int b u) (decide (a > b)) := fun P w E Q h =>
 CmpOf.ints_gt (P := fun i v => v = if i = 0 then Value.int a t else Value.int b u) (fun i => if i = 0 then a else b) (fun i v e => by
  by_cases z : i = 0
  ·rw [if_pos z] at e ⊢; exact ⟨t,e⟩
  ·rw [if_neg z] at e ⊢; exact ⟨u,e⟩) 0 1 _ _ s Q E rfl rfl h
theorem Pp (l b : Addr) (xs ys : Array Value) (n m : Nat) (d1 d2 : Option Addr) (s1 s2 : Array (Option Value)) (r : Bool) :
  Meets (Builtin.«tuple.__gt__» ⟨[.ref l,.ref b],[]⟩) (fun A R s => s.heap.get? l = some { cls := .type "tuple",dict := d1,data := .seq xs n,slots := s1 } /\ s.heap.get? b = some { cls := .type "tuple",dict := d2,data := .seq ys m,slots := s2 } /\ C4 .Gt A.in1 s (decide (xs.size > ys.size)) (xs.toList.zip ys.toList) r /\ R (.ok (.ret (.bool r))) s) :=
 .of_wp fun P w A R s hyp => by
  obtain ⟨hp,g,d,tk,os⟩ := s
  obtain ⟨hl,hb,told,fin⟩ := hyp
  have tt := AutoSeq1.sub_tuple_tuple
  wp_walk using AutoSeq1.wpAny_loadPart' hl,AutoSeq1.wpAny_loadPart' hb,wpAny_forIn_list _ (fun left st s' => st.1 = none /\ s' = ⟨hp,g,d,tk,os⟩ /\ C4 .Gt A.in1 ⟨hp,g,d,tk,os⟩ (decide (xs.size > ys.size)) left r) _
  case turn =>
   rintro ⟨x,y⟩ left st s' ⟨_,rfl,told⟩
   cases told with
   | same e more =>
    refine wpAny_bind (e P w _ _ ?_)
    wp_walk
    exact ⟨rfl,rfl,more⟩
   | unlike e o =>
    refine wpAny_bind (e P w _ _ ?_)
    unfold OrdAt at o
    wp_walk using o P w _ _
    exact ⟨_,rfl,fin⟩
  case fin =>
   rintro ⟨st1,st2⟩ s' ⟨hs,rfl,told⟩
   replace hs : st1 = _ := hs
   subst hs
   cases told
   wp_walk
   exact ⟨_,rfl,fin⟩
  case h => exact ⟨rfl,rfl,told⟩
theorem OrdAt.gtT {A : Around} {s : Shared} {l b : Addr} {xs ys : Array Value} {r : Bool} (hl : IsTup s.heap l xs) (hb : IsTup s.heap b ys) (hu : A.units < cLine) (told : C4 .Gt A.in1 s (decide (xs.size > ys.size)) (xs.toList.zip ys.toList) r) : OrdAt .Gt A s (.ref l) (.ref b) r := fun P w E Q h => by
 obtain ⟨⟨c1,d1,t1,s1⟩,o1,e1,n,f1⟩ := hl
 obtain ⟨⟨c2,d2,t2,s2⟩,o2,e2,m,f2⟩ := hb
 cases e1; cases f1; cases e2; cases f2
 exact richCompare_meets_room (op := .Gt) ⟨_,o1,rfl⟩ ⟨_,o2,rfl⟩ F.slot_tuple_gt F.entry_tuple_gt (F.args_tuple_gt_2 _ _) (Pp l b xs ys n m d1 d2 s1 s2 r) ⟨o1,o2,told,(fun z => nomatch z),h⟩ hu
end L2
end
section
namespace L2
open PySem PySem.Spec PyProof.Rows SeqAt
variable {bt : Value -> Value -> Bool}
def better (bt : Value -> Value -> Bool) : Option Value -> Value -> Option Value
 | none,v => some v
 | some b,v => if bt v b then some v else some b
def HQ : Option Value -> Array Value
 | none => #[]
 | some b => #[b,b]
abbrev HR (c : Array Value) (k : Nat) : Obj := { cls := .type "list",dict := none,data := .seq c k,slots := #[] }
def ER (h0 h : Heap) : Prop := ∀ b o,h0.get? b = some o -> h.get? b = some o
theorem HS (o : Option Value) : (HQ o).size <= sizeLine := by cases o <;> (first | exact (show 0 <= sizeLine by decide) | exact (show 2 <= sizeLine by decide))
theorem Pq {o : Option Value} {v : Value} : better bt o v ≠ none := by
 cases o with
 | none => intro z; cases z
 | some b =>
  show (if bt v b then some v else some b) ≠ none
  cases bt v b <;> (intro z; cases z)
theorem Pr {P : Program} {w : World} {A : Around} {R : Result -> Shared -> Prop} {I S : Addr} {fp wr : List Addr} {vs : List Value} {St : Nat -> Heap -> Prop} {h0 : Heap} {bt : Value -> Value -> Bool}
  (W : Walks P w A.in1 I fp wr vs.length (fun i v => vs[i]? = some v) St) (nS : S ∉ fp) (oS : h0.get? S = none) (ow : ∀ b ∈ wr,h0.get? b = none)
  (cmp : ∀ x y s,x ∈ vs -> y ∈ vs -> ER h0 s.heap -> OrdAt .Gt A.in1 s x y (bt x y)) :
  ∀ (k j : Nat) (s : Shared) (old : Option Value) (c : Nat),vs.length - j = k -> j <= vs.length -> St j s.heap -> ER h0 s.heap -> s.heap.get? S = some (HR (HQ old) c) -> (∀ b,old = some b -> b ∈ vs) -> (old = none -> j < vs.length) ->
   (∀ v h tk,(vs.drop j).foldl (better bt) old = some v -> (∀ b o,b ∉ wr -> b ≠ S -> s.heap.get? b = some o -> h.get? b = some o) -> R (.ok (.ret v)) { s with heap := h,toks := tk }) ->
   codeAny (model P w) A (.builtin "max.loop" ⟨[.ref I,.none,.ref S],[]⟩) R s := by
 have nw : S ∉ wr := fun z => nS (W.sub _ z)
 have again' : (toString "max" ++ toString ".loop" : String) = "max.loop" := by decide
 have apart : ∀ {b : Addr} {o : Obj},h0.get? b = some o -> b ∉ wr /\ b ≠ S := fun {b o} e => ⟨fun z => (by rw [ow b z] at e; cases e),fun z => (by rw [z,oS] at e; cases e)⟩
 intro k
 induction k with
 | zero =>
  intro j s old c hk hj st held at' mem some' fin
  obtain rfl : j = vs.length := by omega
  cases old with
  | none => exact absurd (some' rfl) (Nat.lt_irrefl _)
  | some b =>
   refine codeAny_builtin F.entry_max_loop ?_
   rw [Around.under_plainId F.plain_max_loop _]
   show wpAny _ A.in1 (seqItems? (.ref S) >>= _) _ _ s
   refine wpAny_bind (wpAny_seqItems at' rfl ?_)
   show wpAny _ A.in1 (tryCatch (pyNext (.ref I)) _ >>= _) _ _ s
   refine wpAny_bind (wpAny_tryCatch (W.done s _ _ st fun h1 tk kept => ?_))
   show wpAny _ A.in1 (updateSeq S (fun _ => #[]) >>= _) _ _ _
   refine wpAny_bind (wpAny_updateSeq (hz := HS _) (kept S _ nw at') rfl (wpAny_bind (wpAny_letGo (wpAny_pure ?_))))
   exact fin b _ tk (by rw [List.drop_length]; rfl) fun a o ha hS e => (Heap.get?_update_other _ _ (Ne.symm hS)).trans (kept a o ha e)
 | succ k ih =>
  intro j s old c hk hj st held at' mem some' fin
  have lt : j < vs.length := by omega
  have dr : vs.drop j = vs[j] :: vs.drop (j + 1) := List.drop_eq_getElem_cons lt
  refine codeAny_builtin F.entry_max_loop ?_
  rw [Around.under_plainId F.plain_max_loop _]
  show wpAny _ A.in1 (seqItems? (.ref S) >>= _) _ _ s
  refine wpAny_bind (wpAny_seqItems at' rfl ?_)
  show wpAny _ A.in1 (tryCatch (pyNext (.ref I)) _ >>= _) _ _ s
  refine wpAny_bind (wpAny_tryCatch (W.item j s _ _ lt st fun v h1 tk got st1 kept => ?_))
  have ev : v = vs[j] := by rw [List.getElem?_eq_getElem lt] at got; exact (Option.some.inj got).symm
  have mv : v ∈ vs := by rw [ev]; exact List.getElem_mem lt
  have at1 := kept S _ nw at'
  have held1 : ER h0 h1 := fun b o e => kept b o (apart e).1 (held b o e)
  have next : ∀ (h2 : Heap) (tk2 c2 : Nat),h2.get? S = some (HR (HQ (better bt old v)) c2) -> (∀ b o,b ≠ S -> h1.get? b = some o -> h2.get? b = some o) ->
    codeAny (model P w) A (.builtin "max.loop" ⟨[.ref I,.none,.ref S],[]⟩) R { s with heap := h2,toks := tk2 } := fun h2 tk2 c2 at2 k2 => by
   refine ih (j + 1) { s with heap := h2,toks := tk2 } (better bt old v) c2 (by omega) lt (W.frame _ _ _ st1 fun b hb o e => k2 b o (fun z => nS (by rw [<- z]; exact hb)) e) (fun b o e => k2 b o (apart e).2 (held1 b o e)) at2 (fun b e => ?_) (fun e => absurd e Pq) fun u h3 tk3 e k3 => fin u h3 tk3 (by rw [dr,List.foldl_cons,<- ev]; exact e) fun b o hb hS q => k3 b o hb hS (k2 b o hS (kept b o hb q))
   cases old with
   | none => cases e; exact mv
   | some b0 =>
    have e' : (if bt v b0 then some v else some b0) = some b := e
    split at e'
    ·cases e'; exact mv
    ·cases e'; exact mem _ rfl
  cases old with
  | none =>
   show wpAny _ A.in1 (updateSeq S (fun _ => #[v,v]) >>= _) _ _ _
   refine wpAny_bind (wpAny_updateSeq (hz := HS _) at1 rfl ?_)
   rw [again']
   exact wpAny_pure ⟨plainId_quiet F.plain_max_loop _,next _ tk _ (Heap.get?_update_self _ at1 rfl) fun b o hb e => (Heap.get?_update_other _ _ (Ne.symm hb)).trans e⟩
  | some b =>
   show wpAny _ A.in1 (tryCatch (holding [v,v] (richCompare .Gt v b >>= _)) _ >>= _) _ _ _
   refine wpAny_bind (wpAny_tryCatch (wpAny_holding (wpAny_bind (cmp v b _ mv (mem b rfl) held1 P w _ _ ?_))))
   refine wpAny_bind (wpAny_holding (wpAny_truthy_bool (wpAny_bind (wpAny_letGo (wpAny_pure ?_)))))
   cases up : bt v b with
   | true =>
    have eb : better bt (some b) v = some v := (show (if bt v b then some v else some b) = _ from by rw [up]; rfl)
    rw [if_pos rfl]
    refine wpAny_bind (wpAny_updateSeq (hz := HS _) at1 rfl (wpAny_bind (wpAny_letGo ?_)))
    rw [again']
    exact wpAny_pure ⟨plainId_quiet F.plain_max_loop _,next _ tk _ (by rw [eb]; exact Heap.get?_update_self _ at1 rfl) fun b o hb e => (Heap.get?_update_other _ _ (Ne.symm hb)).trans e⟩
   | false =>
    have eb : better bt (some b) v = some b := (show (if bt v b then some v else some b) = _ from by rw [up]; rfl)
    rw [if_neg Bool.false_ne_true]
    refine wpAny_bind (wpAny_letGo ?_)
    rw [again']
    exact wpAny_pure ⟨plainId_quiet F.plain_max_loop _,next h1 tk c (by rw [eb]; exact at1) fun b o hb e => e⟩
theorem Ps {P : Program} {w : World} {A : Around} {E Q : Value -> Shared -> Prop} {s : Shared} {l : Addr} {vs : List Value} (hh : A.handled = none) (hl : s.heap.IsList l vs.toArray) (ne : vs ≠ [])
  (cmp : ∀ x y s',x ∈ vs -> y ∈ vs -> ER s.heap s'.heap -> OrdAt .Gt A.in1 s' x y (bt x y))
  (fin : ∀ v h tk,vs.foldl (better bt) none = some v -> (∀ b o,s.heap.get? b = some o -> h.get? b = some o) -> Q v { s with heap := h,toks := tk }) : wpAny (model P w) A (call (.builtin "max") [.ref l]) Q E s := by
 have again' : (toString "max" ++ toString ".loop" : String) = "max.loop" := by decide
 refine call_function_tree F.kind_max F.plain_max F.entry_max (F.args_max1 _) ?_
 show wpAny _ A.in1 (Builtin.Builtins.bindParams "max" ["key","default"] 0 ⟨[],[]⟩ >>= _) _ _ s
 refine wpAny_bind (wpAny_of_eq (a := [none,none]) rfl (wpAny_bind (wpAny_pure (wpAny_bind ?_))))
 obtain ⟨ol,eol,_⟩ := id hl
 have lt := Heap.lt_size eol
 refine wpAny_pyIter_list hl (wpAny_bind (wpAny_newObj_type ?_))
 rw [again']
 dsimp only
 have z1 : (s.heap.push { cls := .type "list_iterator",data := .fields #[.ref l,.int 0 0] }).objs.size = s.heap.objs.size + 1 := Heap.size_push ..
 have new0 : ∀ a,s.heap.objs.size <= a -> s.heap.get? a = none := fun a ha => by
  cases e : s.heap.get? a with
  | none => rfl
  | some o => exact absurd (Heap.lt_size e) (Nat.not_lt.mpr ha)
 have kk : ∀ b o,s.heap.get? b = some o -> ((s.heap.push { cls := .type "list_iterator",data := .fields #[.ref l,.int 0 0] }).push (HR #[] 0)).get? b = some o := fun b o e => Heap.get?_push_of_some _ (Heap.get?_push_of_some _ e)
 have sz : vs.toArray.size = vs.length := by simp
 have W := Walks.list (prog := P) (w := w) (A := A.in1) hh s.heap.objs.size l (Nat.ne_of_lt lt) vs.toArray
 have eP : (fun (i : Nat) (v : Value) => vs.toArray[i]? = some v) = (fun i v => vs[i]? = some v) := by funext i v; simp
 rw [sz,eP] at W
 rw [z1]
 refine wpAny_pure ⟨plainId_quiet F.plain_max_loop _,Pr (h0 := s.heap) (bt := bt) (S := s.heap.objs.size + 1) W (fun z => by
  rcases List.mem_cons.mp z with z | z
  ·exact absurd z (Nat.succ_ne_self _)
  ·exact absurd (List.mem_singleton.mp z) (Nat.ne_of_gt (Nat.lt_succ_of_lt lt))) (new0 _ (Nat.le_succ _)) (fun b hb => by rw [List.mem_singleton.mp hb]; exact new0 _ (Nat.le_refl _)) cmp vs.length 0 _ none 0 rfl (Nat.zero_le _) ?_ kk (by rw [<- z1]; exact Heap.get?_push_size _ rfl) (fun b e => nomatch e) (fun _ => List.length_pos_iff.mpr ne) fun v h tk e k2 => fin v h tk e fun b o q => k2 b o (fun z => by rw [List.mem_singleton.mp z,new0 _ (Nat.le_refl _)] at q; cases q) (fun z => by rw [z,new0 _ (Nat.le_succ _)] at q; cases q) (kk b o q)⟩
 exact ⟨⟨_,Heap.get?_push_of_some _ (Heap.get?_push_size _ rfl),rfl,rfl⟩,hl.at fun o e => kk _ o e⟩
end L2
end
section
namespace L2
open PySem PySem.Spec PyProof.Rows SeqAt
inductive Cmp : PyData -> PyData -> Prop
 | int (a b : Int) : Cmp (.int a) (.int b)
 | row (as bs : List Int) : Cmp (.tuple (as.map .int)) (.tuple (bs.map .int))
def Kn : ∀ (as : List Int),PyData.canLayAll0 (as.map .int) = true /\ PyData.hasDictAll (as.map .int) = false /\ PyData.depthAll (as.map .int) = 0
 | [] => ⟨rfl,rfl,rfl⟩
 | a :: as => by
  obtain ⟨h1,h2,h3⟩ := Kn as
  refine ⟨?_,?_,?_⟩
  ·show PyData.canLayAll0 (.int a :: as.map .int) = true
   unfold PyData.canLayAll0; rw [h1]; rfl
  ·show PyData.hasDictAll (.int a :: as.map .int) = false
   unfold PyData.hasDictAll; rw [h2]; rfl
  ·show PyData.depthAll (.int a :: as.map .int) = 0
   unfold PyData.depthAll; rw [h3]; rfl
theorem Cmp.left {d e : PyData} (h : Cmp d e) : d.canLay0 = true /\ d.hasDict = false /\ d.depth <= 1 := by
 cases h with
 | int a b => exact ⟨rfl,rfl,Nat.zero_le _⟩
 | row as bs =>
  obtain ⟨h1,h2,h3⟩ := Kn as
  refine ⟨?_,?_,?_⟩
  ·unfold PyData.canLay0; exact h1
  ·unfold PyData.hasDict; exact h2
  ·unfold PyData.depth; rw [h3]; exact Nat.le_refl _
theorem Cmp.symm {d e : PyData} (h : Cmp d e) : Cmp e d := by
 cases h with
 | int a b => exact .int b a
 | row as bs => exact .row bs as
theorem ES {h : Heap} : ∀ {us : List Value} {ds : List PyData} {as : List Addr},ReadsAll h us ds as -> us.length = ds.length
 | _,_,_,.nil => rfl
 | _,_,_,.cons _ t => by rw [List.length_cons,List.length_cons,ES t]
theorem Ee {h : Heap} {u : Value} {ds : List PyData} {as : List Addr} (r : Reads h u (.tuple ds) as) : ∃ a vs,u = .ref a /\ IsTup h a vs.toArray /\ ReadsAll h vs ds as := by
 cases r with
 | tuple e c d ra => exact ⟨_,_,rfl,⟨_,e,c,_,by rw [d]⟩,ra⟩
theorem HU {bt : Value -> Value -> Bool} {f : Value -> Int} {S : Value -> Prop} (h1 : ∀ x y,S x -> S y -> bt x y = true -> f y <= f x) (h2 : ∀ x y,S x -> S y -> bt x y = false -> f x <= f y) : ∀ (l : List Value) (b v : Value),S b -> (∀ x ∈ l,S x) -> l.foldl (better bt) (some b) = some v -> (v = b \/ v ∈ l) /\ f b <= f v /\ ∀ x ∈ l,f x <= f v
 | [],b,v,_,_,e => by cases e; exact ⟨.inl rfl,Int.le_refl _,fun x hx => nomatch hx⟩
 | y :: l,b,v,sb,sl,e => by
  rw [List.foldl_cons] at e
  have e' : l.foldl (better bt) (if bt y b then some y else some b) = some v := e
  have sy := sl y List.mem_cons_self
  have sl' : ∀ x ∈ l,S x := fun x hx => sl x (List.mem_cons_of_mem _ hx)
  cases c : bt y b with
  | true =>
   rw [c,if_pos rfl] at e'
   obtain ⟨m,a,q⟩ := HU h1 h2 l y v sy sl' e'
   refine ⟨.inr (m.elim (fun z => by rw [z]; exact List.mem_cons_self) fun z => List.mem_cons_of_mem _ z),Int.le_trans (h1 y b sy sb c) a,fun x hx => ?_⟩
   rcases List.mem_cons.mp hx with rfl | hx
   ·exact a
   ·exact q x hx
  | false =>
   rw [c,if_neg Bool.false_ne_true] at e'
   obtain ⟨m,a,q⟩ := HU h1 h2 l b v sb sl' e'
   refine ⟨m.elim .inl fun z => .inr (List.mem_cons_of_mem _ z),a,fun x hx => ?_⟩
   rcases List.mem_cons.mp hx with rfl | hx
   ·exact Int.le_trans (h2 x b sy sb c) a
   ·exact q x hx
def FR (last : Bool) : List Int -> List Int -> Bool
 | a :: as,b :: bs => if a = b then FR last as bs else decide (a > b)
 | _,_ => last
theorem Ko {A : Around} {s : Shared} {last : Bool} : ∀ {as bs : List Int} {us ws : List Value} {x y : List Addr},ReadsAll s.heap us (as.map .int) x -> ReadsAll s.heap ws (bs.map .int) y -> C4 .Gt A s last (us.zip ws) (FR last as bs)
 | [],_,_,_,_,_,r,_ => by cases r; exact .none
 | _ :: _,[],_,_,_,_,r,q => by cases q; rw [List.zip_nil_right]; exact .none
 | a :: as,b :: bs,us,ws,x,y,r,q => by
  cases r with
  | cons r1 r2 =>
   cases q with
   | cons q1 q2 =>
    cases r1 with
    | int i t =>
     cases q1 with
     | int j u =>
      rw [List.zip_cons_cons]
      unfold FR
      split
      ·rename_i e
       subst e
       refine .same ?_ (Ko r2 q2)
       have := EqAt.int_int (A := A) (s := s) a t a u
       simpa using this
      ·rename_i e
       refine .unlike ?_ (OrdAt.gtI a b t u)
       have := EqAt.int_int (A := A) (s := s) a t b u
       rw [show (a == b) = false from by simpa using e] at this
       exact this
def HV (d e : PyData) : Bool := match d,e with
 | .int a,.int b => decide (a > b)
 | .tuple xs,.tuple ys => FR (decide (xs.length > ys.length)) (xs.filterMap fun | .int i => some i | _ => none) (ys.filterMap fun | .int i => some i | _ => none)
 | _,_ => false
theorem HW : ∀ (as : List Int),((as.map PyData.int).filterMap fun | .int i => some i | _ => none) = as
 | [] => rfl
 | a :: as => by rw [List.map_cons,List.filterMap_cons]; simp only; rw [HW as]
theorem Pt {A : Around} {s : Shared} {d e : PyData} {u v : Value} {x y : List Addr} (h : Cmp d e) (r : Reads s.heap u d x) (q : Reads s.heap v e y) (hu : A.units < cLine) : OrdAt .Gt A s u v (HV d e) := by
 cases h with
 | int a b =>
  cases r with
  | int i t =>
   cases q with
   | int j t' => exact OrdAt.gtI a b t t'
 | row as bs =>
  obtain ⟨a,us,rfl,hl,ra⟩ := Ee r
  obtain ⟨b,ws,rfl,hb,rb⟩ := Ee q
  have l1 : us.length = as.length := by have := ES ra; rw [List.length_map] at this; exact this
  have l2 : ws.length = bs.length := by have := ES rb; rw [List.length_map] at this; exact this
  refine OrdAt.gtT hl hb hu ?_
  have := Ko (A := A.in1) (last := decide (us.length > ws.length)) ra rb
  unfold HV
  dsimp only
  rw [HW,HW,List.length_map,List.length_map,<- l1,<- l2]
  simpa using this
def Ef (last : Bool) : List PyData -> List PyData -> Bool
 | d :: ds,e :: es => if PyData.eqv d e then Ef last ds es else HV d e
 | _,_ => last
theorem Kp {A : Around} {s : Shared} {last : Bool} (hu : A.units + 5 < cLine) : ∀ {ds es : List PyData} {us ws : List Value} {x y : List Addr},Paired Cmp ds es -> ReadsAll s.heap us ds x -> ReadsAll s.heap ws es y -> C4 .Gt A s last (us.zip ws) (Ef last ds es)
 | _,_,_,_,_,_,.nil,r,q => by cases r; exact .none
 | d :: ds,e :: es,us,ws,x,y,.cons c t,r,q => by
  cases r with
  | cons r1 r2 =>
   cases q with
   | cons q1 q2 =>
    rw [List.zip_cons_cons]
    obtain ⟨c1,c2,c3⟩ := c.left
    obtain ⟨e1,e2,e3⟩ := c.symm.left
    have eq := eqAt_reads d e A s _ _ _ _ r1 q1 c1 e1 (by omega)
    unfold Ef
    cases z : PyData.eqv d e with
    | true => rw [z] at eq; exact .same eq (Kp hu t r2 q2)
    | false => rw [z] at eq; exact .unlike eq (Pt c r1 q1 (by omega))
theorem Kq {X : Cx} {k : Nat} (hc : X.calm = true) (hr : AX k X.A) : Bu X (.builtin "max") (fun xs H Q => ∃ (p l : Addr) (fs : List (Int × List PyData)) (vs : List V),xs = [.ref l] /\ H l = some (.lst vs) /\ Ad p H (fs.map fun q => .tuple (.int q.1 :: q.2)) vs /\ fs ≠ [] /\ (∀ q ∈ fs,∀ q' ∈ fs,Paired Cmp q.2 q'.2) /\
  ∀ (i : Nat) q v,fs[i]? = some q -> vs[i]? = some v -> (∀ q' ∈ fs,q'.1 <= q.1) -> Q v H) := by
 intro pins s σ H xs us Q I r h
 obtain ⟨p,l,fs,vs,rfl,hl,rs,ne,cm,q⟩ := h
 obtain ⟨u,rfl,ru⟩ := r.one
 cases ru
 obtain ⟨its,rv,pl,hz⟩ := I.list (Am.of hl)
 have un := hr.un
 have lv := rv.length
 have lf := rs.len
 rw [List.length_map] at lf
 -- what each value reads
 have rd : ∀ (i : Nat) (x : Value),its[i]? = some x -> ∃ q v as,fs[i]? = some q /\ vs[i]? = some v /\ Aw v x /\ Reads s.heap x (.tuple (.int q.1 :: q.2)) as := fun i x hx => by
  have hi := (List.getElem?_eq_some_iff.mp hx).1
  have hf : fs[i]? = some fs[i] := List.getElem?_eq_getElem (by omega)
  obtain ⟨v,hv,rep⟩ := rs.get (i := i) (d := .tuple (.int (fs[i]).1 :: (fs[i]).2)) (by rw [List.getElem?_map,hf]; rfl)
  obtain ⟨x',hx',rx⟩ := rv.get hv
  rw [hx] at hx'; cases hx'
  have mem := List.getElem_mem (l := fs) (n := i) (by omega)
  have nd : (PyData.tuple (.int (fs[i]).1 :: (fs[i]).2)).hasDict = false := by
   have := cm _ mem _ mem
   generalize (fs[i]).2 = ds at this
   have all : ∀ {ds es : List PyData},Paired Cmp ds es -> PyData.hasDictAll ds = false := by
    intro ds es t
    induction t with
    | nil => rfl
    | cons c _ ih => unfold PyData.hasDictAll; rw [c.left.2.1,ih]; rfl
   unfold PyData.hasDict PyData.hasDictAll
   rw [all this]; rfl
  obtain ⟨as,rr⟩ := Aa.reads I _ v x nd rep rx
  exact ⟨_,v,as,hf,hv,rx,rr⟩
 have get : ∀ x ∈ its,∃ q as,q ∈ fs /\ Reads s.heap x (.tuple (.int q.1 :: q.2)) as := fun x hx => by
  obtain ⟨i,hi⟩ := List.getElem?_of_mem hx
  obtain ⟨q,v,as,hf,_,_,r⟩ := rd i x hi
  exact ⟨q,as,List.mem_of_getElem? hf,r⟩
 -- the first number of a value
 have first : ∀ x,∃ n : Int,∀ (q : Int) (ds : List PyData) (as : List Addr),Reads s.heap x (.tuple (.int q :: ds)) as -> q = n := fun x => by
  by_cases z : ∃ (q : Int) (ds : List PyData) (as : List Addr),Reads s.heap x (.tuple (.int q :: ds)) as
  ·obtain ⟨q,ds,as,r⟩ := z
   refine ⟨q,fun q' ds' as' r' => ?_⟩
   obtain ⟨a,us,rfl,hl1,ra⟩ := Ee r
   obtain ⟨b,ws,e,hl2,rb⟩ := Ee r'
   cases e
   obtain ⟨o1,g1,c1,n1,d1⟩ := hl1
   obtain ⟨o2,g2,c2,n2,d2⟩ := hl2
   rw [g1] at g2; cases g2
   rw [d1] at d2
   have : us = ws := by injection d2 with d2 _; simpa using d2
   subst this
   cases ra with
   | cons a1 _ =>
    cases rb with
    | cons b1 _ => cases a1; cases b1; rfl
  ·exact ⟨0,fun q ds as r => absurd ⟨q,ds,as,r⟩ z⟩
 obtain ⟨f,hf⟩ := Classical.axiomOfChoice first
 have ex : ∀ z : Value × Value,∃ b : Bool,(z.1 ∈ its -> z.2 ∈ its -> ∀ s' : Shared,ER s.heap s'.heap -> OrdAt .Gt X.A.in1 s' z.1 z.2 b) /\ (b = true -> z.1 ∈ its -> z.2 ∈ its -> f z.2 <= f z.1) /\ (b = false -> z.1 ∈ its -> z.2 ∈ its -> f z.1 <= f z.2) := fun z => by
  by_cases m1 : z.1 ∈ its
  ·by_cases m2 : z.2 ∈ its
   ·obtain ⟨q1,a1,k1,r1⟩ := get _ m1
    obtain ⟨q2,a2,k2,r2⟩ := get _ m2
    have e1 := hf z.1 q1.1 q1.2 a1 r1
    have e2 := hf z.2 q2.1 q2.2 a2 r2
    have pc : Paired Cmp (.int q1.1 :: q1.2) (.int q2.1 :: q2.2) := .cons (.int _ _) (cm q1 k1 q2 k2)
    refine ⟨Ef (decide ((PyData.int q1.1 :: q1.2).length > (PyData.int q2.1 :: q2.2).length)) (.int q1.1 :: q1.2) (.int q2.1 :: q2.2),fun _ _ s' held => ?_,fun b _ _ => ?_,fun b _ _ => ?_⟩
    ·obtain ⟨c1,us,ez1,h1,ra⟩ := Ee (Reads.keeps held r1)
     obtain ⟨c2,ws,ez2,h2,rb⟩ := Ee (Reads.keeps held r2)
     rw [ez1,ez2]
     refine OrdAt.gtT h1 h2 (by simp only [Around.in1_units]; omega) ?_
     have l1 := ES ra
     have l2 := ES rb
     have := Kp (A := X.A.in1.in1) (s := s') (last := decide ((PyData.int q1.1 :: q1.2).length > (PyData.int q2.1 :: q2.2).length)) (by simp only [Around.in1_units]; omega) pc ra rb
     rw [<- l1,<- l2] at this ⊢
     simpa using this
    ·unfold Ef at b
     by_cases z : q1.1 = q2.1
     ·omega
     ·rw [if_neg (by unfold PyData.eqv; simpa using z)] at b
      have b' : decide (q1.1 > q2.1) = true := b
      have := of_decide_eq_true b'
      omega
    ·unfold Ef at b
     by_cases z : q1.1 = q2.1
     ·omega
     ·rw [if_neg (by unfold PyData.eqv; simpa using z)] at b
      have b' : decide (q1.1 > q2.1) = false := b
      have := of_decide_eq_false b'
      omega
   ·exact ⟨true,fun _ m => absurd m m2,fun _ _ m => absurd m m2,fun z => nomatch z⟩
  ·exact ⟨true,fun m => absurd m m1,fun _ m => absurd m m1,fun z => nomatch z⟩
 obtain ⟨bt,hbt⟩ := Classical.axiomOfChoice ex
 have nei : its ≠ [] := fun z => ne (List.eq_nil_of_length_eq_zero (by rw [z] at lv; have l0 : vs.length = 0 := lv; omega))
 refine Ps (bt := fun x y => bt (x,y)) (I.ok.hd hc) pl.isList nei (fun x y s' mx my held => (hbt (x,y)).1 mx my s' held) fun v h tk e kept => ?_
 obtain ⟨b0,rest,eits⟩ : ∃ b r,its = b :: r := by
  cases its with
  | nil => exact absurd rfl nei
  | cons b r => exact ⟨b,r,rfl⟩
 have e' : rest.foldl (better fun x y => bt (x,y)) (some b0) = some v := by rw [eits,List.foldl_cons] at e; exact e
 -- outside of the list the answers don't matter
 have best := HU (S := fun x => x ∈ its) (bt := fun x y => bt (x,y)) (f := f) (fun x y hx hy b => (hbt (x,y)).2.1 b hx hy) (fun x y hx hy b => (hbt (x,y)).2.2 b hx hy) rest b0 v (by rw [eits]; exact List.mem_cons_self) (fun x hx => by rw [eits]; exact List.mem_cons_of_mem _ hx) e'
 obtain ⟨mv,f0,fr⟩ := best
 have mv' : v ∈ its := by
  rw [eits]
  rcases mv with z | z
  ·rw [z]; exact List.mem_cons_self
  ·exact List.mem_cons_of_mem _ z
 have all : ∀ x ∈ its,f x <= f v := fun x hx => by
  rw [eits] at hx
  rcases List.mem_cons.mp hx with rfl | hx
  ·exact f0
  ·exact fr x hx
 obtain ⟨i,hi⟩ := List.getElem?_of_mem mv'
 obtain ⟨qq,vv,as,hfq,hvv,rx,rr⟩ := rd i v hi
 refine ⟨vv,H,I.kept kept,rx,q i qq vv hfq hvv fun q' hq' => ?_⟩
 obtain ⟨j,hj⟩ := List.getElem?_of_mem hq'
 have hj' := (List.getElem?_eq_some_iff.mp hj).1
 obtain ⟨q2,v2,as2,hf2,_,_,r2⟩ := rd j its[j] (List.getElem?_eq_getElem (by omega))
 rw [hj] at hf2; cases hf2
 have := all its[j] (List.getElem_mem _)
 rw [<- hf v qq.1 qq.2 as rr,<- hf its[j] q'.1 q'.2 as2 r2] at this
 omega
end L2
end
section
namespace MF
open PySem PySem.Spec PyProof.Rows L2
variable {p : Addr} {H : Hp} {T : TM} {kvs ks : KL} {k : AO} {v : V}
def Dg (T : TM) : Nat -> List Int -> Int
 | _,[] => 0
 | h,p :: r => BF T h p (r.headD 0) + Dg T (h + 1) r
def Eg (T : TM) (ps : List Int) : Prop := ∀ x ∈ ps,x ∈ 0 :: T.co
structure OneTail (T : TM) (h : Nat) (x f : Int) (ps : List Int) : Prop where
 len : ps.length = T.ds.length - h
 val : f = Dg T h ps
 hd : ps.headD 0 = x
 as : Eg T ps
 top : ∀ qs : List Int,qs.length = T.ds.length - h -> Eg T qs -> qs.headD 0 = x -> Dg T h qs <= f
def DI (T : TM) (h : Nat) (x : Int) : Prop := if h = T.ds.length then x = 0 else x ∈ 0 :: T.co
structure HX (T : TM) (f : Int) (ps : List Int) : Prop where
 val : f = FQ T ps
 len : ps.length = T.ds.length
 as : Eg T ps
 top : ∀ qs : List Int,qs.length = T.ds.length -> Eg T qs -> FQ T qs <= f
abbrev B8 (f : Int) (ps : List Int) : PyData := .tuple [.int f,A3 ps]
structure TailsAt (p : Addr) (H : Hp) (T : TM) (h : Nat) (kvs : KL) : Prop where
 one : ∀ q ∈ kvs,∃ x f ps,q.1 = .inl x /\ Aa p H (B8 f ps) q.2 /\ OneTail T h x f ps
 all : ∀ x,DI T h x -> ∃ q ∈ kvs,q.1 = .inl x
theorem TailsAt.same {H' : Hp} {h : Nat} (t : TailsAt p H T h kvs) (s : Ab H H') : TailsAt p H' T h kvs :=
 ⟨fun q hq => by
  obtain ⟨x,f,ps,e,r,o⟩ := t.one q hq
  exact ⟨x,f,ps,e,Aa.ev (Ev.same s) _ _ r,o⟩,t.all⟩
theorem Pu {q : AO × V} (h : q ∈ BS ks k v) : q ∈ ks \/ q = (k,v) := by
 unfold BS at h
 split at h
 ·obtain ⟨q0,h0,e⟩ := List.mem_map.mp h
  split at e
  ·rename_i z
   exact .inr (by rw [<- e,z])
  ·exact .inl (by rw [<- e]; exact h0)
 ·rcases List.mem_append.mp h with h | h
  ·exact .inl h
  ·exact .inr (List.mem_singleton.mp h)
theorem Pw : ∃ q ∈ BS ks k v,q.1 = k := by
 unfold BS
 split
 ·rename_i z
  obtain ⟨q,hq,e⟩ := List.any_eq_true.mp z
  have e' : q.1 = k := of_decide_eq_true e
  exact ⟨_,List.mem_map.mpr ⟨q,hq,rfl⟩,by rw [if_pos e']; exact e'⟩
 ·exact ⟨(k,v),List.mem_append_right _ (List.mem_singleton.mpr rfl),rfl⟩
theorem Px {q : AO × V} (h : q ∈ ks) : ∃ q' ∈ BS ks k v,q'.1 = q.1 := by
 unfold BS
 split
 ·refine ⟨_,List.mem_map.mpr ⟨q,h,rfl⟩,?_⟩
  split <;> rfl
 ·exact ⟨q,List.mem_append_left _ h,rfl⟩
theorem Kr {T : TM} {h : Nat} {ps : List Int} (hl : ps.length = T.ds.length - h) (ha : Eg T ps) (hh : h <= T.ds.length) : DI T h (ps.headD 0) := by
 unfold DI
 split
 ·cases ps with
  | nil => rfl
  | cons a r => rw [List.length_cons] at hl; omega
 ·cases ps with
  | nil => rw [List.length_nil] at hl; omega
  | cons a r => exact ha a List.mem_cons_self
theorem Py (r : Aa p H (B8 0 []) v) : TailsAt p H T T.ds.length [(.inl 0,v)] := by
 refine ⟨fun q hq => ?_,fun x hx => ?_⟩
 ·rw [List.mem_singleton.mp hq]
  refine ⟨0,0,[],rfl,r,by simp,rfl,rfl,fun _ h => (nomatch h),fun qs hl _ _ => ?_⟩
  cases qs with
  | nil => exact Int.le_refl _
  | cons a r => simp at hl
 ·unfold DI at hx
  rw [if_pos rfl] at hx
  subst hx
  exact ⟨_,List.mem_singleton.mpr rfl,rfl⟩
theorem OneTail.step {n : Nat} (t : TailsAt p H T (n + 1) kvs) (hn : n < T.ds.length) {x b f : Int} {ps : List Int} (hx : x ∈ 0 :: T.co) (o : OneTail T (n + 1) b f ps)
  (top : ∀ b' f' ps',OneTail T (n + 1) b' f' ps' -> (∃ q ∈ kvs,q.1 = .inl b' /\ Aa p H (B8 f' ps') q.2) -> BF T n x b' + f' <= BF T n x b + f) : OneTail T n x (BF T n x b + f) (x :: ps) := by
 refine ⟨by rw [List.length_cons,o.len]; omega,?_,rfl,fun y hy => ?_,fun qs hl ha hh => ?_⟩
 ·show _ = BF T n x (ps.headD 0) + Dg T (n + 1) ps
  rw [o.hd,o.val]
 ·rcases List.mem_cons.mp hy with rfl | hy
  ·exact hx
  ·exact o.as y hy
 ·cases qs with
  | nil => rw [List.length_nil] at hl; omega
  | cons a r =>
   have ea : a = x := hh
   subst ea
   have lr : r.length = T.ds.length - (n + 1) := by rw [List.length_cons] at hl; omega
   have ar : Eg T r := fun y hy => ha y (List.mem_cons_of_mem _ hy)
   obtain ⟨q,hq,eq⟩ := t.all _ (Kr lr ar (by omega))
   obtain ⟨b',f',ps',e1,r1,o1⟩ := t.one q hq
   rw [eq] at e1
   have e1' : r.headD 0 = b' := by injection e1
   subst e1'
   have h1 := o1.top r lr ar rfl
   have h2 := top _ f' ps' o1 ⟨q,hq,eq,r1⟩
   show BF T n a (r.headD 0) + Dg T (n + 1) r <= _
   omega
theorem Pz {g : Nat -> Int} : ∀ n,((List.range (n + 1)).map g).sum = g 0 + ((List.range n).map fun i => g (i + 1)).sum := fun n => by
 rw [List.range_succ_eq_map,List.map_cons,List.sum_cons,List.map_map]; rfl
theorem Ks (r : List Int) : r.headD 0 = r.getD 0 0 := by cases r <;> rfl
theorem Kt : ∀ (ps : List Int) (h : Nat),Dg T h ps = ((List.range ps.length).map fun i => BF T (h + i) (ps.getD i 0) (ps.getD (i + 1) 0)).sum
 | [],h => rfl
 | p :: r,h => by
  show BF T h p (r.headD 0) + Dg T (h + 1) r = _
  rw [Kt r (h + 1),List.length_cons,Pz,Ks]
  have e : (fun i => BF T (h + (i + 1)) ((p :: r).getD (i + 1) 0) ((p :: r).getD (i + 1 + 1) 0)) = (fun i => BF T (h + 1 + i) (r.getD i 0) (r.getD (i + 1) 0)) := by
   funext i
   rw [show h + (i + 1) = h + 1 + i by omega]; rfl
  rw [e]; rfl
theorem Ku (ps : List Int) : Dg T 0 ps - ps.headD 0 * T.st = FQ T ps := by
 rw [Kt,Ks]
 unfold FQ Kh
 congr 3
 funext i
 rw [Nat.zero_add]
theorem PC (t : TailsAt p H T 0 kvs) {x f : Int} {ps : List Int} (o : OneTail T 0 x f ps) (top : ∀ x' f' ps',OneTail T 0 x' f' ps' -> (∃ q ∈ kvs,q.1 = .inl x' /\ Aa p H (B8 f' ps') q.2) -> f' - x' * T.st <= f - x * T.st) : HX T (f - x * T.st) ps := by
 refine ⟨?_,by have := o.len; omega,o.as,fun qs hl ha => ?_⟩
 ·rw [<- Ku,<- o.val,o.hd]
 ·obtain ⟨q,hq,eq⟩ := t.all _ (Kr (h := 0) (by omega) ha (by omega))
  obtain ⟨x',f',ps',e1,r1,o1⟩ := t.one q hq
  rw [eq] at e1
  have e1' : qs.headD 0 = x' := by injection e1
  subst e1'
  have h1 := o1.top qs (by omega) ha rfl
  have h2 := top _ f' ps' o1 ⟨q,hq,eq,r1⟩
  rw [<- Ku]
  omega
end MF
namespace MF
open PySem PySem.Spec PyProof.Rows L2
def FS (p : Addr) (H : Hp) (T : TM) (n : Nat) (g : Int -> Int -> Int) (hd : List Int -> List Int) (q0 : AO × V) (fq : Int × List PyData) : Prop := ∃ b f ps,q0.1 = .inl b /\ Aa p H (B8 f ps) q0.2 /\ OneTail T n b f ps /\ fq = (g b f,[A3 (hd ps)])
end MF
end
section
namespace MF
open PySem PySem.Spec PyProof.Rows L2
variable {T U : TM} {α : Type} {xs : List α} {i : Nat}
theorem PD {n f l : Nat} (h : f <= l) (hl : l < n) : (f,l) ∈ BX n n := by
 unfold BX
 refine List.mem_flatten.mpr ⟨CD f (n - f),List.mem_map.mpr ⟨f,List.mem_range.mpr (by omega),rfl⟩,?_⟩
 unfold CD
 exact List.mem_map.mpr ⟨l - f,List.mem_range.mpr (by omega),by show (f,f + (l - f)) = (f,l); rw [show f + (l - f) = l by omega]⟩
theorem no_str : BA T = none ↔ ∀ f l,f <= l -> l < T.ds.length -> BW T f l = false := by
 unfold BA
 rw [List.head?_eq_none_iff]
 unfold D3
 rw [List.filter_eq_nil_iff]
 constructor
 ·intro h f l hf hl
  have := h (f,l) (PD hf hl)
  simpa using this
 ·intro h q hq
  obtain ⟨h1,h2⟩ := J2 (Nat.le_refl _) q hq
  rw [h q.1 q.2 h1 h2]
  exact Bool.false_ne_true
theorem Kv : ∀ {xs ys : List Int},xs.length = ys.length -> (∀ i,xs.getD i 0 <= ys.getD i 0) -> xs.sum <= ys.sum
 | [],[],_,_ => Int.le_refl _
 | [],_ :: _,h,_ => by simp at h
 | _ :: _,[],h,_ => by simp at h
 | x :: xs,y :: ys,h,g => by
  have h0 : x <= y := g 0
  have := Kv (xs := xs) (ys := ys) (by simpa using h) fun i => g (i + 1)
  rw [List.sum_cons,List.sum_cons]
  omega
theorem Kw {f l : Nat} {d : α} : (part xs f l).getD i d = if i < l + 1 - f then xs.getD (f + i) d else d := by
 unfold part
 rw [List.getD_eq_getElem?_getD,List.getElem?_take]
 split
 ·rw [List.getElem?_drop,List.getD_eq_getElem?_getD]
 ·rfl
theorem Kx {xs ys : List Int} {f l : Nat} (h : xs.length = ys.length) (g : ∀ i,xs.getD i 0 <= ys.getD i 0) : (part xs f l).sum <= (part ys f l).sum := by
 refine Kv (by unfold part; rw [List.length_take,List.length_take,List.length_drop,List.length_drop,h]) fun i => ?_
 rw [Kw,Kw]
 split
 ·exact g _
 ·exact Int.le_refl _
theorem PF {f l : Nat} (hd : T.ds.length = U.ds.length) (d : ∀ i,U.ds.getD i 0 <= T.ds.getD i 0) (hc : T.cs.length = U.cs.length) (c : ∀ i,(T.cs.getD i []).sum <= (U.cs.getD i []).sum) (s : T.st <= U.st) (h : T.hi <= U.hi) (lo : U.lo <= T.lo) (no : BW T f l = false) : BW U f l = false := by
 unfold BW at no ⊢
 have no' := of_decide_eq_false no
 refine decide_eq_false fun z => no' ?_
 have h1 : FK U f l <= FK T f l := Kx hd.symm d
 have h2 : most T f l <= most U f l := by
  unfold most
  rw [<- D0,<- D0]
  refine Kx (by rw [List.length_map,List.length_map,hc]) fun i => ?_
  have e : ∀ V : TM,(V.cs.map List.sum).getD i 0 = (V.cs.getD i []).sum := fun V => by
   rw [List.getD_eq_getElem?_getD,List.getElem?_map,List.getD_eq_getElem?_getD]
   cases V.cs[i]? <;> rfl
  rw [e,e]
  exact c i
 split at z <;> split <;> omega
theorem HY (hd : T.ds.length = U.ds.length) (d : ∀ i,U.ds.getD i 0 <= T.ds.getD i 0) (hc : T.cs.length = U.cs.length) (c : ∀ i,(T.cs.getD i []).sum <= (U.cs.getD i []).sum) (s : T.st <= U.st) (h : T.hi <= U.hi) (lo : U.lo <= T.lo) (no : BA T = none) : BA U = none :=
 no_str.mpr fun f l hf hl => PF hd d hc c s h lo (no_str.mp no f l hf (by omega))
theorem Ky {k : Nat} {x d : α} (hk : k < xs.length) : (xs.set k x).getD i d = if i = k then x else xs.getD i d := by
 rw [List.getD_eq_getElem?_getD,List.getElem?_set,List.getD_eq_getElem?_getD]
 by_cases z : k = i
 ·rw [if_pos z,if_pos (by omega),if_pos z.symm]; rfl
 ·rw [if_neg z,if_neg (fun e => z e.symm)]
theorem PH {P : PL} {S : SY} (ok : P.ok) (so : S.ok P.bs.length) {f : Nat} : ∀ k,f + k <= S.ex.length -> Bf P S (caps P S) (f + k) <= BY (terms P S) f k := fun k => by
 induction k with
 | zero =>
  intro _
  show Bf P S (caps P S) (f + 0) <= (if f = 0 then P.st else P.hi)
  cases f with
  | zero => exact Int.le_refl _
  | succ f =>
   rw [if_neg (by omega)]
   show Bf P S (caps P S) (f + 1) <= P.hi
   rw [DF]
   unfold CZ
   split <;> omega
 | succ k ih =>
  intro hk
  have h1 := ih (by omega)
  have e : BY (terms P S) f (k + 1) = BY (terms P S) f k + made (caps P S) (f + k) - CC P S (f + k) := rfl
  rw [e,show f + (k + 1) = f + k + 1 by omega,DF]
  unfold Bo CZ
  split <;> omega
theorem PJ {P : PL} {S : SY} : ∀ l,∃ f,f <= l /\ Bf P S (caps P S) l = BY (terms P S) f (l - f) := fun l => by
 induction l with
 | zero => exact ⟨0,Nat.le_refl _,rfl⟩
 | succ l ih =>
  obtain ⟨f,hf,e⟩ := ih
  by_cases z : 0 > Bo P S (caps P S) l - P.hi
  ·refine ⟨f,by omega,?_⟩
   have e2 : BY (terms P S) f (l - f + 1) = BY (terms P S) f (l - f) + made (caps P S) (f + (l - f)) - CC P S (f + (l - f)) := rfl
   rw [DF,show l + 1 - f = l - f + 1 by omega,e2,<- e,show f + (l - f) = l by omega]
   unfold CZ
   rw [if_pos z]
   unfold Bo
   omega
  ·refine ⟨l + 1,Nat.le_refl _,?_⟩
   rw [Nat.sub_self]
   show _ = (if l + 1 = 0 then P.st else P.hi)
   rw [if_neg (by omega),DF]
   unfold CZ
   rw [if_neg z]
   omega
theorem HZ {P : PL} {S : SY} (ok : P.ok) (so : S.ok P.bs.length) : (∀ i,i < S.ex.length -> P.lo <= Bo P S (caps P S) i) ↔ BA (terms P S) = none := by
 have tk := JW (P := P) so
 have ld : (terms P S).ds.length = S.ex.length := B6
 rw [no_str]
 constructor
 ·intro h f l hf hl
  rw [ld] at hl
  rw [<- J6 tk hf (by rw [ld]; exact hl)]
  unfold FL
  refine decide_eq_false ?_
  have h1 := h l hl
  have h2 := PH ok so (f := f) (l - f) (by omega)
  rw [show f + (l - f) = l by omega] at h2
  have e2 : BY (terms P S) f (l - f + 1) = BY (terms P S) f (l - f) + made (caps P S) (f + (l - f)) - CC P S (f + (l - f)) := rfl
  rw [show l + 1 - f = l - f + 1 by omega,e2,show f + (l - f) = l by omega]
  unfold Bo at h1
  show ¬ _ < P.lo
  omega
 ·intro h l hl
  obtain ⟨f,hf,e⟩ := PJ (P := P) (S := S) l
  have h1 := h f l hf (by rw [ld]; exact hl)
  rw [<- J6 tk hf (by rw [ld]; exact hl)] at h1
  unfold FL at h1
  have h2 := of_decide_eq_false h1
  have e2 : BY (terms P S) f (l - f + 1) = BY (terms P S) f (l - f) + made (caps P S) (f + (l - f)) - CC P S (f + (l - f)) := rfl
  rw [show l + 1 - f = l - f + 1 by omega,e2,show f + (l - f) = l by omega,<- e] at h2
  unfold Bo
  have : ¬ _ < P.lo := h2
  omega
end MF
end
section
namespace MF
open PySem PySem.Spec PyProof.Rows L2
variable {p a : Addr} {H H' H1 H2 : Hp} {xs : List V}
structure Ia (K : PySem.W.Frag) (x qual : Str) (st : Stmt) (f : Addr) (fd : FuncData) (c : Addr) : Prop where
 ex : ∃ (oc : Value) (od : Option Addr) (kV doc pm : Value) (an : Option Addr) (ct : Value) (osl : Array (Option Value)),
  fd = PySem.W.fnOf x qual (Cz st) (Bv st) (Aq st) .none kV doc pm an (.ref c) ct /\ K.lookup f = some ⟨oc,od,.func fd,osl⟩ /\ PySem.W.codeIn K (.ref c) qual = true
theorem Ia.ok {P : Program} {w : World} {K : PySem.W.Frag} {mg : Str -> Option Value} {base : Heap} {x qual : Str} {st : Stmt} {f c : Addr} {fd : FuncData} {N ps : List Str} {k : Nat} {sp : Sp} (F : Ia K x qual st f fd c) (S : Ax N ps (Aq st)) (len : ∀ vs H Q E,sp vs H Q E -> vs.length = ps.length)
  (hbody : ∀ (A : Around) (outer : List Env) (s : Shared) (H : Hp) (vs : List V) (Q : VK) (E : XK), AX k (A.deeper (envOfC qual (Aq st) s.heap.objs.size f (.ref c))) -> sp vs H Q E ->
   ∃ t,PSs (BK CX0 P w K mg base N qual (Aq st) f (.ref c) A outer s H E).nox (Bv st) t /\ t { nx := fun _ H' => Q .non H',rt := Q } (start N vs) H) : Cw P w K mg base CX0 (k + 1) f fd ps sp := by
 obtain ⟨oc,od,kV,doc,pm,an,ct,osl,rfl,lk,hcd⟩ := F.ex
 refine GT lk hcd S len fun A outer s H vs Q E hr hsp => ?_
 obtain ⟨t,h,q⟩ := hbody A outer s H vs Q E hr hsp
 exact ⟨t,h.nox,q⟩
def sp_law (K : PySem.W.Frag) (TB : Addr) : Sp := fun vs H Q _ => match vs with | [.ref a] => ∃ ns : List Int,Am K H a (ns.map V.int) /\ ns.length <= 63 /\ H TB = some (.tbl #[]) /\ ∀ H',Q (.bl true) H' | _ => False
theorem PK {K TB vs H Q E} (h : sp_law K TB vs H Q E) : vs.length = 1 := by unfold sp_law at h; split at h; rfl; exact h.elim
def Av (p : Addr) (H H' : Hp) : Prop := ∀ b o,H b = some o -> (b = p /\ ∃ xs,o = .lst xs) \/ (∃ ps,o = .tbl ps) \/ H' b = some o
theorem Av.ev (e : Ev p H H') : Av p H H' := fun b o h => (e b o h).elim .inl fun z => .inr (.inr z)
theorem Av.refl : Av p H H := Av.ev Ev.refl
theorem Av.same (e : Ab H H') : Av p H H' := Av.ev (Ev.same e)
theorem Av.trans (a : Av p H H1) (b : Av p H1 H2) : Av p H H2 := fun c o h => (a c o h).elim .inl fun z => z.elim (fun y => .inr (.inl y)) fun y => b c o y
theorem Av.tup (h : Av p H H') (q : H a = some (.tup xs)) : H' a = some (.tup xs) := by
 rcases h a _ q with ⟨_,ys,e⟩ | ⟨ps,e⟩ | z
 ·cases e
 ·cases e
 ·exact z
theorem Av.lst (h : Av p H H') (q : H a = some (.lst xs)) (n : a ≠ p) : H' a = some (.lst xs) := by
 rcases h a _ q with ⟨e,_⟩ | ⟨ps,e⟩ | z
 ·exact absurd e n
 ·cases e
 ·exact z
theorem Av.dk {ks : List (AO × V)} (h : Av p H H') (q : H a = some (.dK ks)) : H' a = some (.dK ks) := by
 rcases h a _ q with ⟨_,ys,e⟩ | ⟨ps,e⟩ | z
 ·cases e
 ·cases e
 ·exact z
theorem Av.grow {TB : Addr} {ql : Str} (t : TabIn H TB ql) (g : ∀ b o,H b = some o -> b ≠ TB -> H' b = some o) : Av p H H' := fun b o h => by
 by_cases e : b = TB
 ·obtain ⟨ps,h1,_⟩ := t
  rw [e,h1] at h
  cases h
  exact .inr (.inl ⟨_,rfl⟩)
 ·exact .inr (.inr (g b o h e))
mutual
theorem Aa.evT (h : Av p H H') : ∀ (d : PyData) (v : V),Aa p H d v -> Aa p H' d v
 | .none,v,q => q
 | .bool _,v,q => q
 | .int _,v,q => q
 | .str _,v,q => q
 | .tuple ds,v,q => by
  unfold Aa at q ⊢
  obtain ⟨a,xs,e,r,z⟩ := q
  exact ⟨a,xs,e,h.tup r,Ad.evT h ds xs z⟩
 | .list ds,v,q => by
  unfold Aa at q ⊢
  obtain ⟨a,xs,e,n,r,z⟩ := q
  exact ⟨a,xs,e,n,h.lst r n,Ad.evT h ds xs z⟩
 | .dict kvs,v,q => by
  unfold Aa at q ⊢
  obtain ⟨a,ks,e,n,k,r⟩ := q
  exact ⟨a,ks,e,n,k,h.dk r⟩
theorem Ad.evT (h : Av p H H') : ∀ (ds : List PyData) (xs : List V),Ad p H ds xs -> Ad p H' ds xs
 | [],xs,q => by unfold Ad at q ⊢; exact q
 | d :: ds,xs,q => by
  unfold Ad at q ⊢
  obtain ⟨x,r,e,z,zs⟩ := q
  exact ⟨x,r,e,Aa.evT h d x z,Ad.evT h ds r zs⟩
end
theorem _root_.L2.TabIn.grow {H H' : Hp} {TB : Addr} {ql : Str} (t : TabIn H TB ql) (e : ∀ b o,H b = some o -> (∀ xs,o ≠ .lst xs) -> H' b = some o) : TabIn H' TB ql := by
 obtain ⟨ps,h1,h2,h3⟩ := t
 refine ⟨ps,e _ _ h1 (fun xs z => by cases z),h2,fun pos v hv => ?_⟩
 obtain ⟨c,r1,r2⟩ := h3 pos v hv
 exact ⟨c,r1,e _ _ r2 (fun xs z => by cases z)⟩
theorem _root_.L2.TabIn.ev {p : Addr} {H H' : Hp} {TB : Addr} {ql : Str} (t : TabIn H TB ql) (e : Ev p H H') : TabIn H' TB ql := t.grow fun b o q n => (e b o q).elim (fun ⟨_,xs,z⟩ => absurd z (n xs)) id
theorem _root_.L2.TabIn.same {H H' : Hp} {TB : Addr} {ql : Str} (t : TabIn H TB ql) (e : Ab H H') : TabIn H' TB ql := t.grow fun b o q _ => e b o q
theorem PN (s : Str) : PyData.eqv (.tuple [.str s]) (.tuple [.str s]) = true := by
 unfold PyData.eqv PyData.eqvAll PyData.eqv PyData.eqvAll
 simp
theorem Ib {i : Nat} : Bh xs none (some (i : Int)) = xs.take i := by
 unfold Bh
 rw [HT.sIx_nat]
 show (xs.drop 0).take (min i xs.length - 0) = _
 rw [List.drop_zero,Nat.sub_zero]
 by_cases h : i <= xs.length
 ·rw [Nat.min_eq_left h]
 ·rw [Nat.min_eq_right (by omega),List.take_of_length_le (Nat.le_refl _),List.take_of_length_le (by omega)]
theorem PP {lo hi : Option Int} {v : V} (h : v ∈ Bh xs lo hi) : v ∈ xs := by unfold Bh at h; exact List.mem_of_mem_drop (List.mem_of_mem_take h)
theorem Av.own {W : Addr} (a : Av p H H1) (n : H W = none) (b : Ev W H1 H2) : Av p H H2 := fun c o h => by
 rcases a c o h with z | z | z
 ·exact .inl z
 ·exact .inr (.inl z)
 ·rcases b c o z with ⟨e,_⟩ | w
  ·rw [e,n] at h; cases h
  ·exact .inr (.inr w)
theorem PQ {n : Nat} (h : n <= 1000) : n <= sizeLine := Nat.le_of_lt (DT h)
end MF
end
section
namespace MF
open PySem PySem.Spec PyProof.Rows L2
structure ET (K : PySem.W.Frag) (mg : Str -> Option Value) (x : Str) (st : Stmt) (ps : List Str) (c : Addr) : Prop where
 ex : ∃ (f : Addr) (fd : FuncData),Ia K x x st f fd c /\ mg x = some (.ref f) /\ PySem.W.keepIn K (.ref f) = true /\ Binds K fd ps []
theorem ET.fn {P : Program} {w : World} {K : PySem.W.Frag} {mg : Str -> Option Value} {base : Heap} {x : Str} {st : Stmt} {N ps : List Str} {c : Addr} {k : Nat} {sp : Sp} (F : ET K mg x st ps c) (S : Ax N ps (Aq st)) (len : ∀ vs H Q E,sp vs H Q E -> vs.length = ps.length)
  (hbody : ∀ (f : Addr) (A : Around) (outer : List Env) (s : Shared) (H : Hp) (vs : List V) (Q : VK) (E : XK), AX k (A.deeper (envOfC x (Aq st) s.heap.objs.size f (.ref c))) -> sp vs H Q E ->
   ∃ t,PSs (BK CX0 P w K mg base N x (Aq st) f (.ref c) A outer s H E).nox (Bv st) t /\ t { nx := fun _ H' => Q .non H',rt := Q } (start N vs) H) : Fn P w K mg base (k + 1) x ps sp := by
 obtain ⟨f,fd,hF,hm,kp,hb⟩ := F.ex
 exact ⟨f,fd,hF.ok S len fun A outer s H vs Q E hr h => hbody f A outer s H vs Q E hr h,hm,kp,hb⟩
def BB (w : Str) (d : PyData) : Prop := (w = "told" /\ ∃ x,(x = .none \/ ∃ k,x = .int k) /\ d = .tuple [.str "told",x]) \/ (w ≠ "told" /\ d = .tuple [.str w])
theorem PR {H H1 H2 : Hp} {TB W : Addr} {ql : Str} (t : TabIn H1 TB ql) (g : ∀ b o,H b = some o -> b ≠ TB -> H1 b = some o) (s : Ab H1 H2) (n : H2 W = none) : H W = none := by
 cases z : H W with
 | none => rfl
 | some o =>
  by_cases e : W = TB
  ·obtain ⟨ps,h,_⟩ := t
   have := s _ _ h
   rw [<- e,n] at this; cases this
  ·have := s _ _ (g W o z e)
   rw [n] at this; cases this
def top (i : Nat) : Stmt := PySem.Challenge.pw_mainfires_k53_units_where_nothing_keeps.main.body.getD i (.Pass ⟨0, 0, 0, 0⟩)
abbrev s_is_whole : Stmt := top 22
abbrev s_is_whole_from : Stmt := top 23
abbrev s_is_tuple_of : Stmt := top 24
abbrev s_replaced : Stmt := top 25
abbrev s_is_plant : Stmt := top 34
abbrev s_are_boilers : Stmt := top 35
abbrev s_is_make_and_coal : Stmt := top 36
abbrev s_are_engines : Stmt := top 37
abbrev s_is_engine : Stmt := top 38
abbrev s_is_main : Stmt := top 39
abbrev s_need_plant : Stmt := top 40
abbrev s_is_story : Stmt := top 41
abbrev s_is_fault : Stmt := top 42
abbrev s_need_story : Stmt := top 43
abbrev s_caps_of : Stmt := top 44
abbrev s_caps_in : Stmt := top 45
abbrev s_words_for : Stmt := top 46
abbrev s_cap_under : Stmt := top 47
abbrev s_draws_of : Stmt := top 48
abbrev s_drawn_by : Stmt := top 49
abbrev s_need_hour : Stmt := top 50
abbrev s_need_boiler : Stmt := top 51
abbrev s_terms_of : Stmt := top 52
abbrev s_is_too_much : Stmt := top 54
abbrev s_least_stretch : Stmt := top 55
abbrev s_floor_at : Stmt := top 57
abbrev s_highest_floor : Stmt := top 58
abbrev s_tails_from : Stmt := top 59
abbrev s_coal_under : Stmt := top 60
abbrev s_coal_or_refuse : Stmt := top 62
abbrev s_added : Stmt := top 63
abbrev s_more_drawn : Stmt := top 64
abbrev s_less_drawn : Stmt := top 65
abbrev s_wider : Stmt := top 66
abbrev s_lower : Stmt := top 67
abbrev s_fuller : Stmt := top 68
abbrev s_better : Stmt := top 69
abbrev s__law_cell : Stmt := top 71
abbrev s__law_pen : Stmt := top 72
abbrev s__law_draw : Stmt := top 73
abbrev s__law_which : Stmt := top 74
abbrev s__law_said : Stmt := top 75
abbrev s__law_plant : Stmt := top 76
abbrev s__law_story : Stmt := top 77
abbrev s__law_caps : Stmt := top 78
abbrev s__law_draws : Stmt := top 79
abbrev s__law_mains : Stmt := top 80
abbrev s__law_keeps : Stmt := top 81
abbrev s__law_pair : Stmt := top 82
abbrev s__law_dry : Stmt := top 83
abbrev s__law_four : Stmt := top 84
abbrev s_law : Stmt := top 85
structure Tx (mg : Str -> Option Value) : Prop where
 b_ValueError : mg "ValueError" = none
 b_all : mg "all" = none
 b_bool : mg "bool" = none
 b_divmod : mg "divmod" = none
 b_enumerate : mg "enumerate" = none
 b_int : mg "int" = none
 b_isinstance : mg "isinstance" = none
 b_len : mg "len" = none
 b_list : mg "list" = none
 b_max : mg "max" = none
 b_min : mg "min" = none
 b_range : mg "range" = none
 b_reversed : mg "reversed" = none
 b_sum : mg "sum" = none
 b_tuple : mg "tuple" = none
 b_zip : mg "zip" = none
 g_MOST_BOILERS : ∃ t,mg "MOST_BOILERS" = some (.int 4 t)
 g_MOST_ENGINES : ∃ t,mg "MOST_ENGINES" = some (.int 4 t)
 g_MOST_FAULTS : ∃ t,mg "MOST_FAULTS" = some (.int 4 t)
 g_MOST_HOURS : ∃ t,mg "MOST_HOURS" = some (.int 8 t)
 g_MOST_UNITS : ∃ t,mg "MOST_UNITS" = some (.int 9 t)
 g_MOST_EXTRA : ∃ t,mg "MOST_EXTRA" = some (.int 20 t)
 g_MOST_IN_MAIN : ∃ t,mg "MOST_IN_MAIN" = some (.int 40 t)
def PU : PyData -> Bool | .int _ => true | _ => false
def AN (d : PyData) (lo hi : Int) : Bool := match d with | .int i => decide (lo <= i) && decide (i <= hi) | _ => false
def AQ (d : PyData) (lo hi : Int) : Bool := match d with | .tuple ds => decide (lo <= (ds.length : Int)) && decide ((ds.length : Int) <= hi) | _ => false
def FU : Sp := fun vs H Q _ => match vs with | [v] => ∃ p d,Aa p H d v /\ ∀ b,b = PU d -> Q (.bl b) H | _ => False
def Id : Sp := fun vs H Q _ => match vs with | [v,.int lo,.int hi] => ∃ p d,Aa p H d v /\ ∀ b,b = AN d lo hi -> Q (.bl b) H | _ => False
def Ie : Sp := fun vs H Q _ => match vs with | [v,.int lo,.int hi] => ∃ p d,Aa p H d v /\ ∀ b,b = AQ d lo hi -> Q (.bl b) H | _ => False
section
variable {P : Program} {w : World} {K : PySem.W.Frag} {mg : Str -> Option Value} {base : Heap}
theorem PV : Ax ["thing"] ["thing"] (Aq s_is_whole) := AF
theorem PX (F : Df K mg "is_whole" s_is_whole ["thing"]) (T : Tx mg)  : Fn P w K mg base 1 "is_whole" ["thing"] FU := by
 refine F.fn PV (fun vs H Q E h => ?_) (fun f cdv A outer s H vs Q E hr h => ?_)
 ·unfold FU at h; split at h; rfl; exact h.elim
 refine ⟨_,(Ao (Au (By (AC Hy rfl T.b_isinstance boot_isinstance (Al (cx 0 (by rfl)) (E3 (v := .ty "int") rfl T.b_int L2.boot_int rfl (by decide) (by decide)) (by rfl)) (by decide) (by decide) (by rfl) (by rfl)) (Cs (Nb (AC Hy rfl T.b_isinstance boot_isinstance (Al (cx 0 (by rfl)) (E3 (v := .ty "bool") rfl T.b_bool L2.boot_bool rfl (by decide) (by decide)) (by rfl)) (by decide) (by decide) (by rfl) (by rfl))))))),?_⟩
 unfold FU at h
 split at h
 ·rename_i v
  obtain ⟨p,d,r,q⟩ := h
  refine ⟨_,r.ty,.inl rfl,⟨fun c => ⟨_,r.ty,.inr (.inl rfl),?_⟩,fun c => ?_⟩⟩
  ·exact q _ (by cases d <;> first | rfl | cases c)
  ·exact q _ (by cases d <;> first | rfl | cases c)
 ·exact h.elim
theorem PY : Ax ["thing","least","most"] ["thing","least","most"] (Aq s_is_whole_from) := AF
abbrev Dh (P : Program) (w : World) (K : PySem.W.Frag) (mg : Str -> Option Value) (base : Heap) : Prop := Fn P w K mg base 2 "is_whole_from" ["thing","least","most"] Id
theorem PZ (F : Df K mg "is_whole_from" s_is_whole_from ["thing","least","most"]) (T : Tx mg) (D_is_whole : Fn P w K mg base 1 "is_whole" ["thing"] FU) : Dh P w K mg base := by
 refine F.fn PY (fun vs H Q E h => ?_) (fun f cdv A outer s H vs Q E hr h => ?_)
 ·unfold Id at h; split at h; rfl; exact h.elim
 refine ⟨_,(Ao (Au (By (An D_is_whole (hr.mono (by decide)) rfl (Ak (cx 0 (by rfl)) (by rfl)) (by decide) (by rfl) (by rfl)) (Cs (JD Dc Dc (cx 1 (by rfl)) (cx 0 (by rfl)) (cx 2 (by rfl)) (by with_unfolding_all rfl)))))),?_⟩
 unfold Id at h
 split at h
 ·rename_i v lo hi
  obtain ⟨p,d,r,q⟩ := h
  refine ⟨p,d,r,fun b hb => ⟨fun c => ?_,fun c => ?_⟩⟩
  ·subst c
   cases d <;> first | cases hb | skip
   rename_i i
   unfold Aa at r
   subst r
   refine ⟨fun c => ?_,fun c => ?_⟩
   ·exact q _ (by unfold AN; dsimp only; rw [c]; rfl)
   ·exact q _ (by unfold AN; dsimp only; rw [c]; rfl)
  ·subst c
   exact q _ (by cases d <;> first | rfl | cases hb)
 ·exact h.elim
theorem P0 : Ax ["thing","fewest","most"] ["thing","fewest","most"] (Aq s_is_tuple_of) := AF
abbrev C5 (P : Program) (w : World) (K : PySem.W.Frag) (mg : Str -> Option Value) (base : Heap) : Prop := Fn P w K mg base 1 "is_tuple_of" ["thing","fewest","most"] Ie
theorem P2 (F : Df K mg "is_tuple_of" s_is_tuple_of ["thing","fewest","most"]) (T : Tx mg)  : C5 P w K mg base := by
 refine F.fn P0 (fun vs H Q E h => ?_) (fun f cdv A outer s H vs Q E hr h => ?_)
 ·unfold Ie at h; split at h; rfl; exact h.elim
 refine ⟨_,(Ao (Au (By (AC Hy rfl T.b_isinstance boot_isinstance (Al (cx 0 (by rfl)) (E3 (v := .ty "tuple") rfl T.b_tuple Ci rfl (by decide) (by decide)) (by rfl)) (by decide) (by decide) (by rfl) (by rfl)) (Cs (JD Dc Dc (cx 1 (by rfl)) (AC (BM K (by rfl)) rfl T.b_len PySem.boot_len (Ak (cx 0 (by rfl)) (by rfl)) (by decide) (by decide) (by rfl) (by rfl)) (cx 2 (by rfl)) (by with_unfolding_all rfl)))))),?_⟩
 unfold Ie at h
 split at h
 ·rename_i v lo hi
  obtain ⟨p,d,r,q⟩ := h
  refine ⟨_,r.ty,.inr (.inr (.inl rfl)),⟨fun c => ?_,fun c => ?_⟩⟩
  ·cases d <;> first | cases c | skip
   rename_i ds
   unfold Aa at r
   obtain ⟨a,xs,rfl,ha,rs⟩ := r
   refine ⟨a,xs,rfl,.inr (Af.of ha),?_⟩
   rw [<- rs.len]
   refine ⟨fun c => ?_,fun c => ?_⟩
   ·exact q _ (by unfold AQ; dsimp only; rw [c]; rfl)
   ·exact q _ (by unfold AQ; dsimp only; rw [c]; rfl)
  ·exact q _ (by cases d <;> first | rfl | cases c)
 ·exact h.elim
end
end MF
end
section
namespace MF
open PySem PySem.Spec PyProof.Rows L2
variable {p : Addr} {H : Hp} {a : PyData} {xs : List V}
theorem Kz {α β : Type} {ds : List α} {i : Nat} {d : α} (f : α -> β) (h : ds[i]? = some d) : (ds.take (i + 1)).map f = (ds.take i).map f ++ [f d] := by
 rw [List.take_add_one,h,List.map_append]; rfl
def DJ (d : PyData) : Bool := match d with | .tuple [a,b] => AN a 1 9 && AN b 1 9 | _ => false
def Di (d : PyData) : Bool := match d with | .tuple [a,b,c] => AN a 1 9 && AN b 0 7 && AN c 1 8 | _ => false
def Dj (d : PyData) : Bool := match d with
 | .tuple [a,b,c] => AN b 0 40 && match b with | .int hi => AN c 0 hi && (match c with | .int st => AN a 0 st | _ => false) | _ => false
 | _ => false
def Eh (d : PyData) : Bool := match d with | .tuple ds => AQ d 1 4 && ds.all DJ | _ => false
def Ei (d : PyData) : Bool := match d with | .tuple ds => AQ d 0 4 && ds.all Di | _ => false
def B9 (d : PyData) : Bool := match d with | .tuple [a,b,c] => Eh a && Ei b && Dj c | _ => false
def B0 (f : PyData -> Bool) : Sp := fun vs H Q _ => match vs with | [v] => ∃ p d,Aa p H d v /\ ∀ b H',b = f d -> Ab H H' -> Q (.bl b) H' | _ => False
theorem Ej {f : PyData -> Bool} {vs H Q E} (h : B0 f vs H Q E) : vs.length = 1 := by unfold B0 at h; split at h; rfl; exact h.elim
abbrev FV : Sp := B0 DJ
abbrev FW : Sp := B0 Di
abbrev FX : Sp := B0 Dj
abbrev FY : Sp := B0 Eh
abbrev FZ : Sp := B0 Ei
abbrev Ga : Sp := B0 B9
theorem P3 {vs H Q E} (h : FV vs H Q E) : vs.length = 1 := Ej h
theorem P4 {vs H Q E} (h : FW vs H Q E) : vs.length = 1 := Ej h
theorem P5 {vs H Q E} (h : FX vs H Q E) : vs.length = 1 := Ej h
theorem P6 {vs H Q E} (h : FY vs H Q E) : vs.length = 1 := Ej h
theorem P7 {vs H Q E} (h : FZ vs H Q E) : vs.length = 1 := Ej h
theorem P8 {vs H Q E} (h : Ga vs H Q E) : vs.length = 1 := Ej h
theorem two {ds : List PyData} (h : AQ (.tuple ds) 2 2 = true) : ∃ a b,ds = [a,b] := by
 unfold AQ at h; simp only [Bool.and_eq_true,decide_eq_true_eq] at h
 match ds,h with
 | [a,b],_ => exact ⟨a,b,rfl⟩
 | [],h => simp at h
 | [_],h => simp at h
 | _ :: _ :: _ :: _,h => simp at h; omega
theorem three {ds : List PyData} (h : AQ (.tuple ds) 3 3 = true) : ∃ a b c,ds = [a,b,c] := by
 unfold AQ at h; simp only [Bool.and_eq_true,decide_eq_true_eq] at h
 match ds,h with
 | [a,b,c],_ => exact ⟨a,b,c,rfl⟩
 | [],h => simp at h
 | [_],h => simp at h
 | [_,_],h => simp at h
 | _ :: _ :: _ :: _ :: _,h => simp at h; omega
theorem Ek {d : PyData} {lo hi : Int} (h : AQ d lo hi = true) : ∃ ds,d = .tuple ds := by
 cases d <;> first | exact ⟨_,rfl⟩ | cases h
theorem Aa.shape {ds : List PyData} {v : V} (r : Aa p H (.tuple ds) v) : ∃ a xs,v = .ref a /\ H a = some (.tup xs) /\ Ad p H ds xs := by unfold Aa at r; exact r
theorem Ad.two {b : PyData} (r : Ad p H [a,b] xs) : ∃ x y,xs = [x,y] /\ Aa p H a x /\ Aa p H b y := by
 unfold Ad at r; obtain ⟨x,s,rfl,hx,r⟩ := r; unfold Ad at r; obtain ⟨y,s,rfl,hy,r⟩ := r; unfold Ad at r; subst r; exact ⟨x,y,rfl,hx,hy⟩
theorem Ad.three {b c : PyData} (r : Ad p H [a,b,c] xs) : ∃ x y z,xs = [x,y,z] /\ Aa p H a x /\ Aa p H b y /\ Aa p H c z := by
 unfold Ad at r; obtain ⟨x,s,rfl,hx,r⟩ := r; obtain ⟨y,z,rfl,hy,hz⟩ := Ad.two r; exact ⟨x,y,z,rfl,hx,hy,hz⟩
section
variable {P : Program} {w : World} {K : PySem.W.Frag} {mg : Str -> Option Value} {base : Heap}
theorem sc_is_make_and_coal : Ax ["thing","make","coal"] ["thing"] (Aq s_is_make_and_coal) := AF
theorem P9 (F : Df K mg "is_make_and_coal" s_is_make_and_coal ["thing"]) (T : Tx mg) (D_is_tuple_of : C5 P w K mg base) (D_is_whole_from : Dh P w K mg base) : Fn P w K mg base 3 "is_make_and_coal" ["thing"] FV := by
 obtain ⟨t_MOST_UNITS,g_MOST_UNITS⟩ := T.g_MOST_UNITS
 refine F.fn sc_is_make_and_coal (fun vs H Q E h => ?_) (fun f cdv A outer s H vs Q E hr h => ?_)
 ·exact P3 h
 refine ⟨_,(Aj (A8 (Cr (BV (An D_is_tuple_of (hr.mono (by decide)) rfl (AA (cx 0 (by rfl)) Ae Ae (by rfl)) (by decide) (by rfl) (by rfl)) (by intro _; rfl))) (Ao (Au BH)) A5) (Aj (Bb (cx 0 (by rfl)) (AI K (n := 2) (Ah (Ag 1 sc_is_make_and_coal.nd (by rfl)) (Ah (Ag 2 sc_is_make_and_coal.nd (by rfl)) AH (by rfl)) (by rfl)) (by rfl) (by rfl) (by rfl) (by rfl)) (by rfl) (by rfl) (by rfl)) (Ao (Au (By (An D_is_whole_from (hr.mono (by decide)) rfl (AA (cx 1 (by rfl)) Ae (A1 (v := .int 9) rfl g_MOST_UNITS ⟨t_MOST_UNITS,rfl⟩ (by decide)) (by rfl)) (by decide) (by rfl) (by rfl)) (Cs (An D_is_whole_from (hr.mono (by decide)) rfl (AA (cx 2 (by rfl)) Ae (A1 (v := .int 9) rfl g_MOST_UNITS ⟨t_MOST_UNITS,rfl⟩ (by decide)) (by rfl)) (by decide) (by rfl) (by rfl)))))))),?_⟩
 unfold FV B0 at h
 split at h
 ·rename_i v
  obtain ⟨p,d,r,q⟩ := h
  refine ⟨p,d,r,fun b hb => ⟨fun c => ?_,fun c => ?_⟩⟩
  ·refine q false H ?_ (Ab.refl _)
   have e : AQ d 2 2 = false := by rw [<- hb]; simpa using c
   cases d <;> first | rfl | skip
   rename_i ds
   match ds,e with
   | [a,b],e => cases e
   | [],_ => rfl
   | [_],_ => rfl
   | _ :: _ :: _ :: _,_ => rfl
  ·have e : AQ d 2 2 = true := by rw [<- hb]; simpa using c
   obtain ⟨ds,rfl⟩ := Ek e
   obtain ⟨a,b,rfl⟩ := two e
   obtain ⟨l,xs,rfl,hl,rs⟩ := Aa.shape r
   obtain ⟨x,y,rfl,rx,ry⟩ := Ad.two rs
   refine ⟨l,[x,y],rfl,Af.of hl,rfl,x,[y],rfl,y,[],rfl,rfl,p,a,rx,fun b1 e1 => ⟨fun c => ⟨p,b,ry,fun b2 e2 => ?_⟩,fun c => ?_⟩⟩
   ·exact q _ _ (by unfold DJ; dsimp only; rw [e2,<- e1,c]; rfl) (Ab.refl _)
   ·exact q _ _ (by unfold DJ; dsimp only; rw [<- e1,c]; rfl) (Ab.refl _)
 ·exact h.elim
theorem sc_is_engine : Ax ["thing","draw","first","every"] ["thing"] (Aq s_is_engine) := AF
theorem Qa (F : Df K mg "is_engine" s_is_engine ["thing"]) (T : Tx mg) (D_is_tuple_of : C5 P w K mg base) (D_is_whole_from : Dh P w K mg base) : Fn P w K mg base 3 "is_engine" ["thing"] FW := by
 obtain ⟨t_MOST_HOURS,g_MOST_HOURS⟩ := T.g_MOST_HOURS
 obtain ⟨t_MOST_UNITS,g_MOST_UNITS⟩ := T.g_MOST_UNITS
 refine F.fn sc_is_engine (fun vs H Q E h => ?_) (fun f cdv A outer s H vs Q E hr h => ?_)
 ·exact P4 h
 refine ⟨_,(Aj (A8 (Cr (BV (An D_is_tuple_of (hr.mono (by decide)) rfl (AA (cx 0 (by rfl)) Ae Ae (by rfl)) (by decide) (by rfl) (by rfl)) (by intro _; rfl))) (Ao (Au BH)) A5) (Aj (Bb (cx 0 (by rfl)) (AI K (n := 3) (Ah (Ag 1 sc_is_engine.nd (by rfl)) (Ah (Ag 2 sc_is_engine.nd (by rfl)) (Ah (Ag 3 sc_is_engine.nd (by rfl)) AH (by rfl)) (by rfl)) (by rfl)) (by rfl) (by rfl) (by rfl) (by rfl)) (by rfl) (by rfl) (by rfl)) (Ao (Au (By (An D_is_whole_from (hr.mono (by decide)) rfl (AA (cx 1 (by rfl)) Ae (A1 (v := .int 9) rfl g_MOST_UNITS ⟨t_MOST_UNITS,rfl⟩ (by decide)) (by rfl)) (by decide) (by rfl) (by rfl)) (By (An D_is_whole_from (hr.mono (by decide)) rfl (AA (cx 2 (by rfl)) Ae (As Bk (A1 (v := .int 8) rfl g_MOST_HOURS ⟨t_MOST_HOURS,rfl⟩ (by decide)) Ae) (by rfl)) (by decide) (by rfl) (by rfl)) (Cs (An D_is_whole_from (hr.mono (by decide)) rfl (AA (cx 3 (by rfl)) Ae (A1 (v := .int 8) rfl g_MOST_HOURS ⟨t_MOST_HOURS,rfl⟩ (by decide)) (by rfl)) (by decide) (by rfl) (by rfl))))))))),?_⟩
 unfold FW B0 at h
 split at h
 ·rename_i v
  obtain ⟨p,d,r,q⟩ := h
  refine ⟨p,d,r,fun b hb => ⟨fun c => ?_,fun c => ?_⟩⟩
  ·refine q false H ?_ (Ab.refl _)
   have e : AQ d 3 3 = false := by rw [<- hb]; simpa using c
   cases d <;> first | rfl | skip
   rename_i ds
   match ds,e with
   | [a,b,c],e => cases e
   | [],_ => rfl
   | [_],_ => rfl
   | [_,_],_ => rfl
   | _ :: _ :: _ :: _ :: _,_ => rfl
  ·have e : AQ d 3 3 = true := by rw [<- hb]; simpa using c
   obtain ⟨ds,rfl⟩ := Ek e
   obtain ⟨a,b,c',rfl⟩ := three e
   obtain ⟨l,xs,rfl,hl,rs⟩ := Aa.shape r
   obtain ⟨x,y,z,rfl,rx,ry,rz⟩ := Ad.three rs
   refine ⟨l,[x,y,z],rfl,Af.of hl,rfl,x,[y,z],rfl,y,[z],rfl,z,[],rfl,rfl,p,a,rx,fun b1 e1 => ⟨fun c => ⟨p,b,ry,fun b2 e2 => ⟨fun c2 => ⟨p,c',rz,fun b3 e3 => ?_⟩,fun c2 => ?_⟩⟩,fun c => ?_⟩⟩
   ·exact q _ _ (by unfold Di; dsimp only; rw [e3,<- e1,c]; rw [show AN b 0 7 = true from by rw [<- c2,e2]; rfl]; rfl) (Ab.refl _)
   ·exact q _ _ (by unfold Di; dsimp only; rw [<- e1,c]; rw [show AN b 0 7 = false from by rw [<- c2,e2]; rfl]; rfl) (Ab.refl _)
   ·exact q _ _ (by unfold Di; dsimp only; rw [<- e1,c]; rfl) (Ab.refl _)
 ·exact h.elim
theorem sc_is_main : Ax ["thing","low","high","start"] ["thing"] (Aq s_is_main) := AF
theorem Qb (F : Df K mg "is_main" s_is_main ["thing"]) (T : Tx mg) (D_is_tuple_of : C5 P w K mg base) (D_is_whole_from : Dh P w K mg base) : Fn P w K mg base 3 "is_main" ["thing"] FX := by
 obtain ⟨t_MOST_IN_MAIN,g_MOST_IN_MAIN⟩ := T.g_MOST_IN_MAIN
 refine F.fn sc_is_main (fun vs H Q E h => ?_) (fun f cdv A outer s H vs Q E hr h => ?_)
 ·exact P5 h
 refine ⟨_,(Aj (A8 (Cr (BV (An D_is_tuple_of (hr.mono (by decide)) rfl (AA (cx 0 (by rfl)) Ae Ae (by rfl)) (by decide) (by rfl) (by rfl)) (by intro _; rfl))) (Ao (Au BH)) A5) (Aj (Bb (cx 0 (by rfl)) (AI K (n := 3) (Ah (Ag 1 sc_is_main.nd (by rfl)) (Ah (Ag 2 sc_is_main.nd (by rfl)) (Ah (Ag 3 sc_is_main.nd (by rfl)) AH (by rfl)) (by rfl)) (by rfl)) (by rfl) (by rfl) (by rfl) (by rfl)) (by rfl) (by rfl) (by rfl)) (Ao (Au (By (An D_is_whole_from (hr.mono (by decide)) rfl (AA (cx 2 (by rfl)) Ae (A1 (v := .int 40) rfl g_MOST_IN_MAIN ⟨t_MOST_IN_MAIN,rfl⟩ (by decide)) (by rfl)) (by decide) (by rfl) (by rfl)) (By (An D_is_whole_from (hr.mono (by decide)) rfl (AA (cx 3 (by rfl)) Ae (cx 2 (by rfl)) (by rfl)) (by decide) (by rfl) (by rfl)) (Cs (An D_is_whole_from (hr.mono (by decide)) rfl (AA (cx 1 (by rfl)) Ae (cx 3 (by rfl)) (by rfl)) (by decide) (by rfl) (by rfl))))))))),?_⟩
 unfold FX B0 at h
 split at h
 ·rename_i v
  obtain ⟨p,d,r,q⟩ := h
  refine ⟨p,d,r,fun b hb => ⟨fun c => ?_,fun c => ?_⟩⟩
  ·refine q false H ?_ (Ab.refl _)
   have e : AQ d 3 3 = false := by rw [<- hb]; simpa using c
   cases d <;> first | rfl | skip
   rename_i ds
   match ds,e with
   | [a,b,c],e => cases e
   | [],_ => rfl
   | [_],_ => rfl
   | [_,_],_ => rfl
   | _ :: _ :: _ :: _ :: _,_ => rfl
  ·have e : AQ d 3 3 = true := by rw [<- hb]; simpa using c
   obtain ⟨ds,rfl⟩ := Ek e
   obtain ⟨a,b,c',rfl⟩ := three e
   obtain ⟨l,xs,rfl,hl,rs⟩ := Aa.shape r
   obtain ⟨x,y,z,rfl,rx,ry,rz⟩ := Ad.three rs
   refine ⟨l,[x,y,z],rfl,Af.of hl,rfl,x,[y,z],rfl,y,[z],rfl,z,[],rfl,rfl,p,b,ry,fun b1 e1 => ⟨fun c1 => ?_,fun c1 => ?_⟩⟩
   ·rw [c1] at e1
    cases b <;> first | cases e1 | skip
    rename_i hi
    unfold Aa at ry
    subst ry
    refine ⟨p,c',rz,fun b2 e2 => ⟨fun c2 => ?_,fun c2 => ?_⟩⟩
    ·rw [c2] at e2
     cases c' <;> first | cases e2 | skip
     rename_i st
     unfold Aa at rz
     subst rz
     refine ⟨p,a,rx,fun b3 e3 => ?_⟩
     exact q _ _ (by unfold Dj; dsimp only; rw [e3]; rw [<- e1,<- e2]; rfl) (Ab.refl _)
    ·exact q _ _ (by unfold Dj; dsimp only; rw [<- e1,<- e2,c2]; rfl) (Ab.refl _)
   ·exact q _ _ (by unfold Dj; dsimp only; rw [<- e1,c1]; rfl) (Ab.refl _)
 ·exact h.elim
theorem Qc : Ax ["thing"] ["thing"] (Aq s_are_boilers) := AF
theorem Qd (F : Df K mg "are_boilers" s_are_boilers ["thing"]) (T : Tx mg) (D_is_make_and_coal : Fn P w K mg base 3 "is_make_and_coal" ["thing"] FV) (D_is_tuple_of : C5 P w K mg base) : Fn P w K mg base 4 "are_boilers" ["thing"] FY := by
 obtain ⟨t_MOST_BOILERS,g_MOST_BOILERS⟩ := T.g_MOST_BOILERS
 refine F.fn Qc (fun vs H Q E h => ?_) (fun f cdv A outer s H vs Q E hr h => ?_)
 ·exact P6 h
 refine ⟨_,(Ao (Au (By (An D_is_tuple_of (hr.mono (by decide)) rfl (AA (cx 0 (by rfl)) Ae (A1 (v := .int 4) rfl g_MOST_BOILERS ⟨t_MOST_BOILERS,rfl⟩ (by decide)) (by rfl)) (by decide) (by rfl) (by rfl)) (Cs (AC (Fu rfl) rfl T.b_all boot_all (Ak (BD ["part"] [none] rfl (Cj K (cx 0 (by rfl)) (by rfl)) (AM.of rfl) (fun _ _ _ _ => (Ag 0 (AS (by rfl)) (by rfl))) (fun _ _ _ _ => Bw) (fun _ _ _ _ => (An D_is_make_and_coal (hr.mono (by decide)) rfl (Ak (cx 0 (by rfl)) (by rfl)) (by decide) (by rfl) (by rfl))) (by intro _; rfl)) (by rfl)) (by decide) (by decide) (by rfl) (by rfl)))))),?_⟩
 unfold FY B0 at h
 split at h
 ·rename_i v
  obtain ⟨p,d,r,q⟩ := h
  refine ⟨p,d,r,fun b hb => ⟨fun c => ?_,fun c => ?_⟩⟩
  ·rw [c] at hb
   obtain ⟨ds,rfl⟩ := Ek hb.symm
   obtain ⟨l,xs,rfl,hl,rs⟩ := Aa.shape r
   have hlen := rs.len
   have hsm : ds.length <= 4 := by
    have := hb.symm; unfold AQ at this; simp only [Bool.and_eq_true,decide_eq_true_eq] at this; omega
   refine ⟨l,rfl,⟨xs,Af.of hl⟩,CA (xs := xs) (fun i ys H' => Ab H H' /\ ys = (ds.take i).map fun d => V.bl (DJ d)) (by omega) ⟨Ab.refl _,rfl⟩ (fun i ys H' h => by rw [h.2,List.length_map,List.length_take]; omega) (fun i ys H' _ h => Af.of (h.1 _ _ hl)) (fun i x ys H' hx h => ?_) fun ys H' h => ?_⟩
   ·obtain ⟨d,hd,rd⟩ := rs.got hx
    refine ⟨trivial,fun _ => ⟨p,d,Aa.ev (Ev.same h.1) d x rd,fun b H2 e s2 => ⟨h.1.trans s2,?_⟩⟩,fun c => by cases c⟩
    rw [h.2,e,Kz _ hd]
   ·intro m hm
    refine ⟨m,ds.map DJ,rfl,?_,?_⟩
    ·rw [Ai,h.2,<- hlen,List.take_length,List.map_map]; rfl
    ·refine q _ _ ?_ (h.1.trans (Ab.new hm))
     unfold Eh; dsimp only; rw [<- hb,List.all_map,Bool.true_and]; rfl
  ·refine q _ _ ?_ (Ab.refl _)
   have e : AQ d 1 4 = false := by rw [<- hb,c]
   unfold Eh
   cases d <;> first | rfl | skip
   dsimp only; rw [e]; rfl
 ·exact h.elim
theorem Qe : Ax ["thing"] ["thing"] (Aq s_are_engines) := AF
theorem Qf (F : Df K mg "are_engines" s_are_engines ["thing"]) (T : Tx mg) (D_is_engine : Fn P w K mg base 3 "is_engine" ["thing"] FW) (D_is_tuple_of : C5 P w K mg base) : Fn P w K mg base 4 "are_engines" ["thing"] FZ := by
 obtain ⟨t_MOST_ENGINES,g_MOST_ENGINES⟩ := T.g_MOST_ENGINES
 refine F.fn Qe (fun vs H Q E h => ?_) (fun f cdv A outer s H vs Q E hr h => ?_)
 ·exact P7 h
 refine ⟨_,(Ao (Au (By (An D_is_tuple_of (hr.mono (by decide)) rfl (AA (cx 0 (by rfl)) Ae (A1 (v := .int 4) rfl g_MOST_ENGINES ⟨t_MOST_ENGINES,rfl⟩ (by decide)) (by rfl)) (by decide) (by rfl) (by rfl)) (Cs (AC (Fu rfl) rfl T.b_all boot_all (Ak (BD ["part"] [none] rfl (Cj K (cx 0 (by rfl)) (by rfl)) (AM.of rfl) (fun _ _ _ _ => (Ag 0 (AS (by rfl)) (by rfl))) (fun _ _ _ _ => Bw) (fun _ _ _ _ => (An D_is_engine (hr.mono (by decide)) rfl (Ak (cx 0 (by rfl)) (by rfl)) (by decide) (by rfl) (by rfl))) (by intro _; rfl)) (by rfl)) (by decide) (by decide) (by rfl) (by rfl)))))),?_⟩
 unfold FZ B0 at h
 split at h
 ·rename_i v
  obtain ⟨p,d,r,q⟩ := h
  refine ⟨p,d,r,fun b hb => ⟨fun c => ?_,fun c => ?_⟩⟩
  ·rw [c] at hb
   obtain ⟨ds,rfl⟩ := Ek hb.symm
   obtain ⟨l,xs,rfl,hl,rs⟩ := Aa.shape r
   have hlen := rs.len
   have hsm : ds.length <= 4 := by
    have := hb.symm; unfold AQ at this; simp only [Bool.and_eq_true,decide_eq_true_eq] at this; omega
   refine ⟨l,rfl,⟨xs,Af.of hl⟩,CA (xs := xs) (fun i ys H' => Ab H H' /\ ys = (ds.take i).map fun d => V.bl (Di d)) (by omega) ⟨Ab.refl _,rfl⟩ (fun i ys H' h => by rw [h.2,List.length_map,List.length_take]; omega) (fun i ys H' _ h => Af.of (h.1 _ _ hl)) (fun i x ys H' hx h => ?_) fun ys H' h => ?_⟩
   ·obtain ⟨d,hd,rd⟩ := rs.got hx
    refine ⟨trivial,fun _ => ⟨p,d,Aa.ev (Ev.same h.1) d x rd,fun b H2 e s2 => ⟨h.1.trans s2,?_⟩⟩,fun c => by cases c⟩
    rw [h.2,e,Kz _ hd]
   ·intro m hm
    refine ⟨m,ds.map Di,rfl,?_,?_⟩
    ·rw [Ai,h.2,<- hlen,List.take_length,List.map_map]; rfl
    ·refine q _ _ ?_ (h.1.trans (Ab.new hm))
     unfold Ei; dsimp only; rw [<- hb,List.all_map,Bool.true_and]; rfl
  ·refine q _ _ ?_ (Ab.refl _)
   have e : AQ d 0 4 = false := by rw [<- hb,c]
   unfold Ei
   cases d <;> first | rfl | skip
   dsimp only; rw [e]; rfl
 ·exact h.elim
theorem sc_is_plant : Ax ["thing","boilers","engines","main"] ["thing"] (Aq s_is_plant) := AF
theorem Qg (F : Df K mg "is_plant" s_is_plant ["thing"]) (T : Tx mg) (D_are_boilers : Fn P w K mg base 4 "are_boilers" ["thing"] FY) (D_are_engines : Fn P w K mg base 4 "are_engines" ["thing"] FZ) (D_is_main : Fn P w K mg base 3 "is_main" ["thing"] FX) (D_is_tuple_of : C5 P w K mg base) : Fn P w K mg base 5 "is_plant" ["thing"] Ga := by
 refine F.fn sc_is_plant (fun vs H Q E h => ?_) (fun f cdv A outer s H vs Q E hr h => ?_)
 ·exact P8 h
 refine ⟨_,(Aj (A8 (Cr (BV (An D_is_tuple_of (hr.mono (by decide)) rfl (AA (cx 0 (by rfl)) Ae Ae (by rfl)) (by decide) (by rfl) (by rfl)) (by intro _; rfl))) (Ao (Au BH)) A5) (Aj (Bb (cx 0 (by rfl)) (AI K (n := 3) (Ah (Ag 1 sc_is_plant.nd (by rfl)) (Ah (Ag 2 sc_is_plant.nd (by rfl)) (Ah (Ag 3 sc_is_plant.nd (by rfl)) AH (by rfl)) (by rfl)) (by rfl)) (by rfl) (by rfl) (by rfl) (by rfl)) (by rfl) (by rfl) (by rfl)) (Ao (Au (By (An D_are_boilers (hr.mono (by decide)) rfl (Ak (cx 1 (by rfl)) (by rfl)) (by decide) (by rfl) (by rfl)) (By (An D_are_engines (hr.mono (by decide)) rfl (Ak (cx 2 (by rfl)) (by rfl)) (by decide) (by rfl) (by rfl)) (Cs (An D_is_main (hr.mono (by decide)) rfl (Ak (cx 3 (by rfl)) (by rfl)) (by decide) (by rfl) (by rfl))))))))),?_⟩
 unfold Ga B0 at h
 split at h
 ·rename_i v
  obtain ⟨p,d,r,q⟩ := h
  refine ⟨p,d,r,fun b hb => ⟨fun c => ?_,fun c => ?_⟩⟩
  ·refine q false H ?_ (Ab.refl _)
   have e : AQ d 3 3 = false := by rw [<- hb]; simpa using c
   cases d <;> first | rfl | skip
   rename_i ds
   match ds,e with
   | [a,b,c],e => cases e
   | [],_ => rfl
   | [_],_ => rfl
   | [_,_],_ => rfl
   | _ :: _ :: _ :: _ :: _,_ => rfl
  ·have e : AQ d 3 3 = true := by rw [<- hb]; simpa using c
   obtain ⟨ds,rfl⟩ := Ek e
   obtain ⟨a,b,c',rfl⟩ := three e
   obtain ⟨l,xs,rfl,hl,rs⟩ := Aa.shape r
   obtain ⟨x,y,z,rfl,rx,ry,rz⟩ := Ad.three rs
   refine ⟨l,[x,y,z],rfl,Af.of hl,rfl,x,[y,z],rfl,y,[z],rfl,z,[],rfl,rfl,p,a,rx,fun b1 H1 e1 s1 => ⟨fun c => ⟨p,b,Aa.ev (Ev.same s1) _ _ ry,fun b2 H2 e2 s2 => ⟨fun c2 => ⟨p,c',Aa.ev (Ev.same (s1.trans s2)) _ _ rz,fun b3 H3 e3 s3 => ?_⟩,fun c2 => ?_⟩⟩,fun c => ?_⟩⟩
   ·exact q _ _ (by unfold B9; dsimp only; rw [e3,<- e1,<- e2,c,c2]; rfl) (s1.trans (s2.trans s3))
   ·exact q _ _ (by unfold B9; dsimp only; rw [<- e1,<- e2,c,c2]; rfl) (s1.trans s2)
   ·exact q _ _ (by unfold B9; dsimp only; rw [<- e1,c]; rfl) s1
 ·exact h.elim
end
end MF
end
section
namespace MF
open PySem PySem.Spec PyProof.Rows L2
variable {p a : Addr} {H : Hp}
def AU (p : Addr) (H : Hp) : Prop := ∃ l f : Int,H p = some (.lst [.int l,.int f])
theorem AU.new {o : HO} (h : AU p H) (n : H a = none) : AU p (upd H a o) := by
 obtain ⟨l,f,e⟩ := h; exact ⟨l,f,by rw [Ap (Bd e n)]; exact e⟩
theorem AU.ne (h : AU p H) (n : H a = none) : a ≠ p := by obtain ⟨l,f,e⟩ := h; exact Ne.symm (Bd e n)
theorem AU.same {H' : Hp} (h : AU p H) (s : Ab H H') : AU p H' := by obtain ⟨l,f,e⟩ := h; exact ⟨l,f,s _ _ e⟩
def Gb (K : PySem.W.Frag) : Sp := fun vs H Q _ => match vs with | [.ref a,.int k] => ∃ ns : List Int,Am K H a (ns.map V.int) /\ 0 <= k /\ ∀ i,Q (.int i) H | _ => False
def Gc : Sp := fun vs H Q _ => match vs with | [.int c] => ∀ p l f,H p = none -> Q (.ref p) (upd H p (.lst [.int l,.int f])) | _ => False
def Ig : Sp := fun vs H Q _ => match vs with | [.ref p,.int m] => AU p H /\ 0 < m /\ m < 1000 /\ ∀ g H',0 <= g -> g < m -> Ev p H H' -> AU p H' -> Q (.int g) H' | _ => False
theorem C6 {ns : List Int} {g : Int} (h0 : 0 <= g) (h1 : g < ns.length) : ∃ v ∈ ns,Ce (ns.map V.int) g = some (.int v) := by
 have hk : g.toNat < ns.length := by omega
 have e : g = ((g.toNat : Nat) : Int) := by omega
 refine ⟨ns[g.toNat],List.getElem_mem hk,?_⟩
 have q : Ce (ns.map V.int) ((g.toNat : Nat) : Int) = some (.int ns[g.toNat]) := Dv (by simp [hk])
 rw [<- e] at q
 exact q
section
variable {P : Program} {w : World} {K : PySem.W.Frag} {mg : Str -> Option Value} {base : Heap}
theorem Qh : Ax ["_law_script","_law_k"] ["_law_script","_law_k"] (Aq s__law_cell) := AF
theorem Qi (F : Df K mg "_law_cell" s__law_cell ["_law_script","_law_k"]) (T : Tx mg)  : Fn P w K mg base 1 "_law_cell" ["_law_script","_law_k"] (Gb K) := by
 refine F.fn Qh (fun vs H Q E h => ?_) (fun f cdv A outer s H vs Q E hr h => ?_)
 ·unfold Gb at h; split at h; rfl; exact h.elim
 refine ⟨_,(Aj (A8 (A7 EF (cx 1 (by rfl)) (AC (BM K (by rfl)) rfl T.b_len PySem.boot_len (Ak (cx 0 (by rfl)) (by rfl)) (by decide) (by decide) (by rfl) (by rfl)) (A6 _)) (Ao (Au (AD (Bz K (by rfl)) (cx 0 (by rfl)) (cx 1 (by rfl)) (fun _ _ => rfl)))) A5) (Ao (Au Ae))),?_⟩
 unfold Gb at h
 split at h
 ·rename_i a k
  obtain ⟨ns,hs,h0,q⟩ := h
  refine ⟨a,_,rfl,.inl hs,⟨fun c => ?_,fun c => q 0⟩⟩
  have c' : k < (ns.length : Int) := by have := of_decide_eq_true c; simpa using this
  obtain ⟨v,_,e⟩ := C6 h0 c'
  exact ⟨a,_,k,.int v,rfl,rfl,hs,e,q v⟩
 ·exact h.elim
theorem sc__law_pen : Ax ["_law_cell_here","_law_more"] ["_law_cell_here"] (Aq s__law_pen) := AF
theorem Qj (F : Df K mg "_law_pen" s__law_pen ["_law_cell_here"]) (T : Tx mg)  : Fn P w K mg base 1 "_law_pen" ["_law_cell_here"] Gc := by
 refine F.fn sc__law_pen (fun vs H Q E h => ?_) (fun f cdv A outer s H vs Q E hr h => ?_)
 ·unfold Gc at h; split at h; rfl; exact h.elim
 refine ⟨_,(Aj (AB (i := 1) sc__law_pen.nd rfl (Ay (by rfl)) (AC (LT rfl) rfl T.b_max boot_max (Al (cx 0 (by rfl)) (As Bk Ae (cx 0 (by rfl))) (by rfl)) (by decide) (by decide) (by rfl) (by rfl)) (by rfl) (Az (by rfl))) (Ao (Au (Bi (Al (cx 1 (by rfl)) (BL GS rfl T.b_int L2.boot_int (Ak (DR M5 (cx 1 (by rfl)) (As M3 Ae Ae) (A6 _)) (by rfl)) (by decide) (by decide) (by rfl) (by rfl)) (by rfl)))))),?_⟩
 unfold Gc at h
 split at h
 ·rename_i c
  refine ⟨c,0 - c,rfl,?_⟩
  exact ⟨⟨by decide,by decide,by decide⟩,.inr ⟨_,rfl,fun p hp => h p _ _ hp⟩⟩
 ·exact h.elim
theorem sc__law_draw : Ax ["_law_pen_here","_law_many","_law_rest","_law_drawn","_law_stir"] ["_law_pen_here","_law_many"] (Aq s__law_draw) := AF
abbrev Gd (P : Program) (w : World) (K : PySem.W.Frag) (mg : Str -> Option Value) (base : Heap) : Prop := Fn P w K mg base 1 "_law_draw" ["_law_pen_here","_law_many"] Ig
theorem Qk (F : Df K mg "_law_draw" s__law_draw ["_law_pen_here","_law_many"]) (T : Tx mg)  : Gd P w K mg base := by
 refine F.fn sc__law_draw (fun vs H Q E h => ?_) (fun f cdv A outer s H vs Q E hr h => ?_)
 ·unfold Ig at h; split at h; rfl; exact h.elim
 refine ⟨_,(Aj (A8 (A7 CT (AD (Bz K (by rfl)) (cx 0 (by rfl)) Ae (fun _ _ => rfl)) Ae (A6 _)) (Aj (Bb (AC LU rfl T.b_divmod boot_divmod (Al (AD (Bz K (by rfl)) (cx 0 (by rfl)) Ae (fun _ _ => rfl)) (cx 1 (by rfl)) (by rfl)) (by decide) (by decide) (by rfl) (by rfl)) (AI K (n := 2) (Ah (Ag 2 sc__law_draw.nd (by rfl)) (Ah (Ag 3 sc__law_draw.nd (by rfl)) AH (by rfl)) (by rfl)) (by rfl) (by rfl) (by rfl) (by rfl)) (by rfl) (by rfl) (by rfl)) (Aj (Bb (cx 2 (by rfl)) (IC (cx 0 (by rfl)) Ae Jg (by intro _; rfl)) (by rfl) (by rfl) (by rfl)) (Ao (Au (cx 3 (by rfl)))))) A5) (Aj (AB (i := 4) sc__law_draw.nd rfl (Ay (by rfl)) (As DY (As Db (As A2 (As DY (AD (Bz K (by rfl)) (cx 0 (by rfl)) Ae (fun _ _ => rfl)) Ae) Ae) Ae) Ae) (by rfl) (Az (by rfl))) (Aj (AB (i := 4) sc__law_draw.nd rfl (Ay (by rfl)) (As DY (As A2 (As Db (cx 4 (by rfl)) (cx 4 (by rfl))) Ae) Ae) (by rfl) (Az (by rfl))) (Aj (Bb (As DY (As A2 (As Db (cx 4 (by rfl)) Ae) Ae) Ae) (IC (cx 0 (by rfl)) Ae Jg (by intro _; rfl)) (by rfl) (by rfl) (by rfl)) (Ao (Au (As DY (As Ft (AD (Bz K (by rfl)) (cx 0 (by rfl)) Ae (fun _ _ => rfl)) Ae) (cx 1 (by rfl))))))))),?_⟩
 unfold Ig at h
 split at h
 ·rename_i p m
  obtain ⟨⟨l,f,hp⟩,h0,h1,q⟩ := h
  refine ⟨p,[.int l,.int f],1,.int f,rfl,rfl,Am.of hp,rfl,rfl,⟨fun c => ?_,fun c => ?_⟩⟩
  ·refine ⟨p,[.int l,.int f],0,.int l,rfl,rfl,Am.of hp,rfl,l,m,rfl,⟨h0,by omega⟩,fun t ht => ?_⟩
   have hpt : p ≠ t := Bd hp ht
   have hp' : upd H t (.tup [.int (l / m),.int (l % m)]) p = some (.lst [.int l,.int f]) := by rw [Ap hpt]; exact hp
   refine ⟨t,[.int (l / m),.int (l % m)],rfl,Af.of Ai,rfl,_,_,rfl,_,_,rfl,rfl,?_⟩
   refine ⟨p,[.int l,.int f],0,0,rfl,rfl,hp',rfl,?_⟩
   exact q _ _ (Int.emod_nonneg _ (by omega)) (Int.emod_lt_of_pos _ h0) ((Ev.new ht).trans (Ev.pen hp')) ⟨l / m,f,Ai⟩
  ·have b1 : ∀ x : Int,-(2 ^ 64) < x % 2147483629 := fun x => Int.lt_of_lt_of_le (by decide) (Int.emod_nonneg x (by decide))
   have b2 : ∀ x : Int,x % 2147483629 < 2 ^ 64 := fun x => Int.lt_trans (Int.emod_lt_of_pos x (by decide)) (by decide)
   have g1 : (0 : Int) < 2147483647 := by decide
   have g2 : (0 : Int) < 2147483629 := by decide
   have g3 : (0 : Int) < 2147483587 := by decide
   have c1 : -(2 ^ 64) < (69621 : Int) /\ (69621 : Int) < 2 ^ 64 := by decide
   have c2 : -(2 ^ 64) < (48271 : Int) /\ (48271 : Int) < 2 ^ 64 := by decide
   refine ⟨p,[.int l,.int f],0,.int l,rfl,rfl,Am.of hp,rfl,g1,.inr c1,g2,.inl ⟨b1 _,b2 _⟩,g3,.inr c2,g2,p,[.int l,.int f],0,0,rfl,rfl,hp,rfl,?_⟩
   refine ⟨p,_,0,_,rfl,rfl,Am.of Ai,rfl,⟨by decide,by decide⟩,h0,?_⟩
   exact q _ _ (Int.emod_nonneg _ (by omega)) (Int.emod_lt_of_pos _ h0) (Ev.pen hp) ⟨_,f,Ai⟩
 ·exact h.elim
end
end MF
end
section
namespace MF
open PySem PySem.Spec PyProof.Rows L2
variable {H H2 H' H3 : Hp} {ys zs : List V} {p p' t : Addr} {Good : PyData -> Prop} {i : Nat}
mutual
def Ca : PyData -> Bool
 | .list _ => false | .dict _ => false | .tuple ds => El ds | _ => true
def El : List PyData -> Bool
 | [] => true
 | d :: ds => Ca d && El ds
end
def TEv (H H' : Hp) : Prop := ∀ a xs,H a = some (.tup xs) -> H' a = some (.tup xs)
theorem TEv.trans {H1 : Hp} (a : TEv H H1) (b : TEv H1 H2) : TEv H H2 := fun c o h => b c o (a c o h)
theorem _root_.L2.Ev.tev {p : Addr} {H H' : Hp} (h : Ev p H H') : TEv H H' := fun a xs q => h.tup q
theorem TEv.upd {a : Addr} (h : H a = some (.lst ys)) : TEv H (upd H a (.lst zs)) := fun b xs q => by
 rw [Ap (Lc q h (by intro z; cases z))]; exact q
mutual
theorem Aa.tev (h : TEv H H') : ∀ (d : PyData) (v : V),Ca d = true -> Aa p H d v -> Aa p' H' d v
 | .none,v,_,q => q
 | .bool _,v,_,q => q
 | .int _,v,_,q => q
 | .str _,v,_,q => q
 | .tuple ds,v,n,q => by
  unfold Aa at q ⊢
  obtain ⟨a,xs,e,r,z⟩ := q
  exact ⟨a,xs,e,h _ _ r,Ad.tev h ds xs (by unfold Ca at n; exact n) z⟩
 | .list ds,v,n,q => by unfold Ca at n; cases n
 | .dict kvs,v,n,q => by unfold Ca at n; cases n
theorem Ad.tev (h : TEv H H') : ∀ (ds : List PyData) (xs : List V),El ds = true -> Ad p H ds xs -> Ad p' H' ds xs
 | [],xs,_,q => by unfold Ad at q ⊢; exact q
 | d :: ds,xs,n,q => by
  unfold Ad at q ⊢
  unfold El at n
  obtain ⟨n1,n2⟩ := Bool.and_eq_true_iff.mp n
  obtain ⟨x,r,e,z,zs⟩ := q
  exact ⟨x,r,e,Aa.tev h d x n1 z,Ad.tev h ds r n2 zs⟩
end
theorem Ge {ds : List PyData} (h : ∀ d ∈ ds,Ca d = true) : El ds = true := by
 induction ds with
 | nil => rfl
 | cons d ds ih => unfold El; rw [h d List.mem_cons_self,ih fun x hx => h x (List.mem_cons_of_mem _ hx)]; rfl
theorem _root_.L2.Ev.own {p b : Addr} {H H' : Hp} {o : HO} (h : Ev p H H') (n : H b = none) : Ev p H (upd H' b o) := fun x u q => (h x u q).elim .inl fun r => .inr (by rw [Ap (Bd q n)]; exact r)
def GoodB (d : PyData) : Prop := ∃ m c : Int,d = .tuple [.int m,.int c] /\ 1 <= m /\ m <= 9 /\ 1 <= c /\ c <= 9
def GoodE (d : PyData) : Prop := ∃ a f e : Int,d = .tuple [.int a,.int f,.int e] /\ 1 <= a /\ a <= 9 /\ 0 <= f /\ f <= 7 /\ 1 <= e /\ e <= 8
theorem GoodB.nm {d : PyData} (h : GoodB d) : Ca d = true := by obtain ⟨m,c,rfl,_⟩ := h; rfl
theorem GoodE.nm {d : PyData} (h : GoodE d) : Ca d = true := by obtain ⟨m,c,e,rfl,_⟩ := h; rfl
structure GoodP (bs es : List PyData) (lo hi st : Int) : Prop where
 b : ∀ d ∈ bs,GoodB d
 b1 : 1 <= bs.length
 b4 : bs.length <= 4
 e : ∀ d ∈ es,GoodE d
 e4 : es.length <= 4
 lo0 : 0 <= lo
 ls : lo <= st
 sh : st <= hi
 h4 : hi <= 40
def KA (bs es : List PyData) (lo hi st : Int) : PyData := .tuple [.tuple bs,.tuple es,.tuple [.int lo,.int hi,.int st]]
def Gf : Sp := fun vs H Q _ => match vs with | [.ref p,.int m] => AU p H /\ 1 <= m /\ m <= 4 /\ ∀ v H' bs es lo hi st,GoodP bs es lo hi st -> Aa p H' (KA bs es lo hi st) v -> Ev p H H' -> AU p H' -> Q v H' | _ => False
structure Filled (Good : PyData -> Prop) (p b : Addr) (H H2 : Hp) (i : Nat) : Prop where
 ev : Ev p H H2
 pen : AU p H2
 ex : ∃ xs ds,H2 b = some (.lst xs) /\ Ad p H2 ds xs /\ (∀ d ∈ ds,Good d) /\ ds.length = i
theorem Filled.step {b : Addr} {d : PyData} {xs : List V} {ds : List PyData} (nm : ∀ d,Good d -> Ca d = true) (hx : H2 b = some (.lst xs)) (rs : Ad p H2 ds xs) (gd : ∀ d ∈ ds,Good d) (hl : ds.length = i) (e3 : Ev p H2 H3) (nb : b ≠ p) (hb : H b = none) (ev : Ev p H H3) (pn : AU p H3)
  (ht : H3 t = none) (rd : Aa p (upd H3 t (.tup ys)) d (.ref t)) (g : Good d) : Filled Good p b H (upd (upd H3 t (.tup ys)) b (.lst (xs ++ [.ref t]))) (i + 1) := by
 have hb3 : H3 b = some (.lst xs) := e3.lst hx nb
 have hbt : b ≠ t := Bd hb3 ht
 have hbt' : upd H3 t (.tup ys) b = some (.lst xs) := by rw [Ap hbt]; exact hb3
 have tv : TEv (upd H3 t (.tup ys)) (upd (upd H3 t (.tup ys)) b (.lst (xs ++ [.ref t]))) := TEv.upd hbt'
 have pn2 : AU p (upd H3 t (.tup ys)) := pn.new ht
 refine ⟨(ev.trans (Ev.new ht)).own hb,?_,xs ++ [.ref t],ds ++ [d],Ai,?_,?_,by simp [hl]⟩
 ·obtain ⟨l,f,e⟩ := pn2
  exact ⟨l,f,by rw [Ap (Ne.symm nb)]; exact e⟩
 ·exact (Ad.tev ((e3.trans (Ev.new ht)).tev.trans tv) ds xs (Ge fun d h => nm d (gd d h)) rs).append (.cons (Aa.tev tv d _ (nm d g) rd) .nil)
 ·intro x hx
  rcases List.mem_append.mp hx with h | h
  ·exact gd x h
  ·rw [List.mem_singleton.mp h]; exact g
theorem Filled.done {b : Addr} (f : Filled Good p b H H2 i) (nb : b ≠ p) (e3 : Ev p H2 H3) : ∃ xs ds,H3 b = some (.lst xs) /\ Ad p H3 ds xs /\ (∀ d ∈ ds,Good d) /\ ds.length = i := by
 obtain ⟨xs,ds,h1,h2,h3,h4⟩ := f.ex
 exact ⟨xs,ds,e3.lst h1 nb,Ad.ev e3 ds xs h2,h3,h4⟩
theorem Filled.other {b e : Addr} {H4 H7 : Hp} {ws : List V} (nm : ∀ d,Good d -> Ca d = true) (f : Filled Good p b H H4 i) (e47 : Ev p H4 H7) (ht : H7 t = none) (he : H7 e = some (.lst ys)) (hHe : H e = none) (nb : b ≠ p) (neb : b ≠ e) (ne : e ≠ p) (pn : AU p H7) :
  Filled Good p b H (upd (upd H7 t (.tup zs)) e (.lst ws)) i := by
 obtain ⟨xs,ds,h1,h2,h3,h4⟩ := f.ex
 have h7 : H7 b = some (.lst xs) := e47.lst h1 nb
 have het : upd H7 t (.tup zs) e = some (.lst ys) := by rw [Ap (Bd he ht)]; exact he
 refine ⟨((f.ev.trans e47).trans (Ev.new ht)).own hHe,?_,xs,ds,?_,?_,h3,h4⟩
 ·obtain ⟨l,g,z⟩ := pn.new (o := .tup zs) ht
  exact ⟨l,g,by rw [Ap (Ne.symm ne)]; exact z⟩
 ·rw [Ap neb,Ap (Bd h7 ht)]; exact h7
 ·exact Ad.tev ((e47.trans (Ev.new ht)).tev.trans (TEv.upd het)) ds xs (Ge fun d h => nm d (h3 d h)) h2
theorem Dk {n : Nat} (h : n <= 1000) : n < sizeLine := Nat.lt_of_le_of_lt h (by decide)
section
variable {P : Program} {w : World} {K : PySem.W.Frag} {mg : Str -> Option Value} {base : Heap}
theorem sc__law_plant : Ax ["_law_pen_here","_law_most","_law_boilers","_law_turn","_law_engines","_law_low","_law_high","_law_start"] ["_law_pen_here","_law_most"] (Aq s__law_plant) := AF
theorem Ql (F : Df K mg "_law_plant" s__law_plant ["_law_pen_here","_law_most"]) (T : Tx mg) (D__law_draw : Gd P w K mg base) : Fn P w K mg base 2 "_law_plant" ["_law_pen_here","_law_most"] Gf := by
 refine F.fn sc__law_plant (fun vs H Q E h => ?_) (fun f cdv A outer s H vs Q E hr h => ?_)
 ·unfold Gf at h; split at h; rfl; exact h.elim
 refine ⟨_,(Aj (AB (i := 2) sc__law_plant.nd rfl (Ay (by rfl)) (Bi BJ) (by rfl) (Az (by rfl))) (Aj (BI PassesOwn.never rfl (C8 rfl T.b_range (Ak (As A2 Ae (An D__law_draw (hr.mono (by decide)) rfl (Al (cx 0 (by rfl)) (cx 1 (by rfl)) (by rfl)) (by decide) (by rfl) (by rfl))) (by rfl)) (by rfl)) (Ag 3 sc__law_plant.nd (by rfl)) (Ao (Br (B5 PySem.F.plainAttrs_list PySem.F.slot_list_append PySem.F.type_list_append Cf (cx 2 (by rfl)) (Ak (A9 (Al (As A2 Ae (An D__law_draw (hr.mono (by decide)) rfl (Al (cx 0 (by rfl)) (AD (Bz K (by rfl)) (Bi (Al Ae Ae (by rfl))) (An D__law_draw (hr.mono (by decide)) rfl (Al (cx 0 (by rfl)) Ae (by rfl)) (by decide) (by rfl) (by rfl)) (fun _ _ => rfl)) (by rfl)) (by decide) (by rfl) (by rfl))) (As A2 Ae (An D__law_draw (hr.mono (by decide)) rfl (Al (cx 0 (by rfl)) Ae (by rfl)) (by decide) (by rfl) (by rfl))) (by rfl))) (by rfl)) (by rfl) (by rfl) (by rfl) (by rfl) (by rfl)) (by rfl))) (by intro _; rfl)) (Aj (AB (i := 4) sc__law_plant.nd rfl (Ay (by rfl)) (Bi BJ) (by rfl) (Az (by rfl))) (Aj (BI PassesOwn.never rfl (C8 rfl T.b_range (Ak (An D__law_draw (hr.mono (by decide)) rfl (Al (cx 0 (by rfl)) Ae (by rfl)) (by decide) (by rfl) (by rfl)) (by rfl)) (by rfl)) (Ag 3 sc__law_plant.nd (by rfl)) (Ao (Br (B5 PySem.F.plainAttrs_list PySem.F.slot_list_append PySem.F.type_list_append Cf (cx 4 (by rfl)) (Ak (A9 (AA (As A2 Ae (An D__law_draw (hr.mono (by decide)) rfl (Al (cx 0 (by rfl)) (AD (Bz K (by rfl)) (Bi (Al Ae Ae (by rfl))) (An D__law_draw (hr.mono (by decide)) rfl (Al (cx 0 (by rfl)) Ae (by rfl)) (by decide) (by rfl) (by rfl)) (fun _ _ => rfl)) (by rfl)) (by decide) (by rfl) (by rfl))) (An D__law_draw (hr.mono (by decide)) rfl (Al (cx 0 (by rfl)) Ae (by rfl)) (by decide) (by rfl) (by rfl)) (As A2 Ae (An D__law_draw (hr.mono (by decide)) rfl (Al (cx 0 (by rfl)) Ae (by rfl)) (by decide) (by rfl) (by rfl))) (by rfl))) (by rfl)) (by rfl) (by rfl) (by rfl) (by rfl) (by rfl)) (by rfl))) (by intro _; rfl)) (Aj (AB (i := 5) sc__law_plant.nd rfl (Ay (by rfl)) (AD (Bz K (by rfl)) (Bi (A4 Ae Ae (An D__law_draw (hr.mono (by decide)) rfl (Al (cx 0 (by rfl)) Ae (by rfl)) (by decide) (by rfl) (by rfl)) (An D__law_draw (hr.mono (by decide)) rfl (Al (cx 0 (by rfl)) Ae (by rfl)) (by decide) (by rfl) (by rfl)) (by rfl))) (An D__law_draw (hr.mono (by decide)) rfl (Al (cx 0 (by rfl)) Ae (by rfl)) (by decide) (by rfl) (by rfl)) (fun _ _ => rfl)) (by rfl) (Az (by rfl))) (Aj (AB (i := 6) sc__law_plant.nd rfl (Ay (by rfl)) (AC (GR rfl) rfl T.b_min boot_min (Al Ae (As A2 (cx 5 (by rfl)) (AD (Bz K (by rfl)) (Bi (A4 Ae (An D__law_draw (hr.mono (by decide)) rfl (Al (cx 0 (by rfl)) Ae (by rfl)) (by decide) (by rfl) (by rfl)) (An D__law_draw (hr.mono (by decide)) rfl (Al (cx 0 (by rfl)) Ae (by rfl)) (by decide) (by rfl) (by rfl)) Ae (by rfl))) (An D__law_draw (hr.mono (by decide)) rfl (Al (cx 0 (by rfl)) Ae (by rfl)) (by decide) (by rfl) (by rfl)) (fun _ _ => rfl))) (by rfl)) (by decide) (by decide) (by rfl) (by rfl)) (by rfl) (Az (by rfl))) (Aj (AB (i := 7) sc__law_plant.nd rfl (Ay (by rfl)) (AD (Bz K (by rfl)) (Bi (AA (cx 5 (by rfl)) (cx 6 (by rfl)) (As A2 (cx 5 (by rfl)) (An D__law_draw (hr.mono (by decide)) rfl (Al (cx 0 (by rfl)) (As A2 (As Bk (cx 6 (by rfl)) (cx 5 (by rfl))) Ae) (by rfl)) (by decide) (by rfl) (by rfl))) (by rfl))) (An D__law_draw (hr.mono (by decide)) rfl (Al (cx 0 (by rfl)) Ae (by rfl)) (by decide) (by rfl) (by rfl)) (fun _ _ => rfl)) (by rfl) (Az (by rfl))) (Ao (Au (A9 (AA (BL (CB K (by rfl)) rfl T.b_tuple Ci (Ak (cx 2 (by rfl)) (by rfl)) (by decide) (by decide) (by rfl) (by rfl)) (BL (CB K (by rfl)) rfl T.b_tuple Ci (Ak (cx 4 (by rfl)) (by rfl)) (by decide) (by decide) (by rfl) (by rfl)) (A9 (AA (cx 5 (by rfl)) (cx 6 (by rfl)) (cx 7 (by rfl)) (by rfl))) (by rfl)))))))))))),?_⟩
 unfold Gf at h
 split at h
 ·rename_i p m
  obtain ⟨pn,m1,m4,q⟩ := h
  refine fun b hb => ?_
  have nb : b ≠ p := pn.ne hb
  refine ⟨pn.new hb,by omega,by omega,fun g1 H1 a1 b1 e1 pn1 => ?_⟩
  have ev1 : Ev p H H1 := (Ev.new hb).trans e1
  have hb1 : H1 b = some (.lst []) := e1.lst Ai nb
  refine ⟨1 + g1,rfl,by omega,by omega,Ey (n := (1 + g1).toNat) (fun i σ H2 => ∃ t,σ = [some (.ref p),some (.int m),some (.ref b),t,none,none,none,none] /\ Filled GoodB p b H H2 i)
   ⟨none,rfl,ev1,pn1,[],[],hb1,.nil,(fun _ h => nomatch h),rfl⟩ (fun i σ H2 hi hP => ?_) fun σ H2 hP => ?_⟩
  ·obtain ⟨t,rfl,ev,pn2,xs,ds,hx,rs,gd,hl⟩ := hP
   refine ⟨.inl ⟨rfl,_,Am.of hx⟩,fun l1 hl1 => ⟨pn2.new hl1,by decide,by decide,fun g2 H3 a2 b2 e2 pn3 => ?_⟩⟩
   obtain ⟨v,hv,hat⟩ := C6 (ns := [9,4]) a2 (by simpa using b2)
   have hv' : v = 9 \/ v = 4 := by simpa using hv
   refine ⟨l1,_,g2,.int v,rfl,rfl,Am.of (e2.lst Ai (pn2.ne hl1)),hat,pn3,by omega,by omega,fun g3 H4 a3 b3 e3 pn4 => ⟨pn4,by decide,by decide,fun g4 H5 a4 b4 e4 pn5 t1 ht1 => ?_⟩⟩
   have e25 : Ev p H2 H5 := (Ev.new hl1).trans (e2.trans (e3.trans e4))
   refine ⟨b,xs,.ref t1,rfl,rfl,by rw [Ap (Bd (e25.lst hx nb) ht1)]; exact e25.lst hx nb,Dk (by rw [<- rs.len,hl]; omega),_,rfl,?_⟩
   exact Filled.step (fun d h => h.nm) hx rs gd hl e25 nb hb (ev.trans e25) pn5 ht1 (Aa.tup Ai (.cons Aa.int (.cons Aa.int .nil))) ⟨1 + g3,1 + g4,rfl,by omega,by omega,by omega,by omega⟩
  obtain ⟨t,rfl,fb⟩ := hP
  refine fun e he => ?_
  have ne : e ≠ p := fb.pen.ne he
  have hne : H e = none := by
   cases z : H e with
   | none => rfl
   | some o => exact ((fb.ev e o z).elim (fun ⟨x,_⟩ => absurd x ne) fun x => by rw [x] at he; cases he)
  have neb : e ≠ b := by
   obtain ⟨xs,ds,h1,_⟩ := fb.ex
   exact Ne.symm (Bd h1 he)
  refine ⟨fb.pen.new he,by decide,by decide,fun g6 H3 a6 b6 e6 pn3 => ?_⟩
  have fb3 : Filled GoodB p b H H3 (1 + g1).toNat := ⟨fb.ev.trans ((Ev.new he).trans e6),pn3,fb.done nb ((Ev.new he).trans e6)⟩
  refine ⟨g6,rfl,by omega,by omega,Ey (n := g6.toNat) (fun i σ H4 => ∃ t,σ = [some (.ref p),some (.int m),some (.ref b),t,some (.ref e),none,none,none] /\ Filled GoodB p b H H4 (1 + g1).toNat /\ Filled GoodE p e H H4 i)
   ⟨_,rfl,fb3,fb3.ev,pn3,[],[],e6.lst Ai ne,.nil,(fun _ h => nomatch h),rfl⟩ (fun i σ H4 hi hP => ?_) fun σ H4 hP => ?_⟩
  ·obtain ⟨t,rfl,fb4,ev,pn2,xs,ds,hx,rs,gd,hl⟩ := hP
   refine ⟨.inl ⟨rfl,_,Am.of hx⟩,fun l1 hl1 => ⟨pn2.new hl1,by decide,by decide,fun g7 H5 a7 b7 e7 pn5 => ?_⟩⟩
   obtain ⟨v,hv,hat⟩ := C6 (ns := [3,9]) a7 (by simpa using b7)
   have hv' : v = 3 \/ v = 9 := by simpa using hv
   refine ⟨l1,_,g7,.int v,rfl,rfl,Am.of (e7.lst Ai (pn2.ne hl1)),hat,pn5,by omega,by omega,fun g8 H6 a8 b8 e8 pn6 => ⟨pn6,by decide,by decide,fun g9 H7 a9 b9 e9 pn7 => ⟨pn7,by decide,by decide,fun g10 H8 a10 b10 e10 pn8 t1 ht1 => ?_⟩⟩⟩
   have e48 : Ev p H4 H8 := (Ev.new hl1).trans (e7.trans (e8.trans (e9.trans e10)))
   have he8 := e48.lst hx ne
   refine ⟨e,xs,.ref t1,rfl,rfl,by rw [Ap (Bd he8 ht1)]; exact he8,Dk (by rw [<- rs.len,hl]; omega),_,rfl,?_,?_⟩
   ·exact Filled.other (fun d h => h.nm) fb4 e48 ht1 he8 hne nb (Ne.symm neb) ne pn8
   ·exact Filled.step (fun d h => h.nm) hx rs gd hl e48 ne hne (ev.trans e48) pn8 ht1 (Aa.tup Ai (.cons Aa.int (.cons Aa.int (.cons Aa.int .nil)))) ⟨1 + g8,g9,1 + g10,rfl,by omega,by omega,by omega,by omega,by omega,by omega⟩
  obtain ⟨t,rfl,fb4,fe4⟩ := hP
  have pn4 := fb4.pen
  refine ⟨pn4,by decide,by decide,fun g7 H5 a7 b7 e7 pn5 => ⟨pn5,by decide,by decide,fun g8 H6 a8 b8 e8 pn6 l1 hl1 => ⟨pn6.new hl1,by decide,by decide,fun g9 H7 a9 b9 e9 pn7 => ?_⟩⟩⟩
  obtain ⟨low,hlow,hat⟩ := C6 (ns := [0,0,g7,g8]) a9 (by simpa using b9)
  have hlow' : low = 0 \/ low = 0 \/ low = g7 \/ low = g8 := by simpa using hlow
  refine ⟨l1,_,g9,.int low,rfl,rfl,Am.of (e9.lst Ai (pn6.ne hl1)),hat,pn7,by decide,by decide,fun g10 H8 a10 b10 e10 pn8 => ⟨pn8,by decide,by decide,fun g11 H9 a11 b11 e11 pn9 l2 hl2 => ⟨pn9.new hl2,by decide,by decide,fun g12 H10 a12 b12 e12 pn10 => ?_⟩⟩⟩
  obtain ⟨x,hx,hat2⟩ := C6 (ns := [0,g10,g11,40]) a12 (by simpa using b12)
  have hx' : x = 0 \/ x = g10 \/ x = g11 \/ x = 40 := by simpa using hx
  refine ⟨l2,_,g12,.int x,rfl,rfl,Am.of (e12.lst Ai (pn9.ne hl2)),hat2,40,low + x,rfl,?_⟩
  have hhi : ∃ hi : Int,(if low + x < 40 then low + x else 40) = hi /\ low <= hi /\ hi <= 40 := by
   by_cases c : low + x < 40
   ·exact ⟨low + x,if_pos c,by omega,by omega⟩
   ·exact ⟨40,if_neg c,by omega,by omega⟩
  obtain ⟨hi,ehi,hi1,hi2⟩ := hhi
  rw [ehi]
  refine ⟨pn10,by omega,by omega,fun g13 H11 a13 b13 e13 pn11 l3 hl3 => ⟨pn11.new hl3,by decide,by decide,fun g14 H12 a14 b14 e14 pn12 => ?_⟩⟩
  obtain ⟨st,hst,hat3⟩ := C6 (ns := [low,hi,low + g13]) a14 (by simpa using b14)
  have hst' : st = low \/ st = hi \/ st = low + g13 := by simpa using hst
  refine ⟨l3,_,g14,.int st,rfl,rfl,Am.of (e14.lst Ai (pn11.ne hl3)),hat3,?_⟩
  have e4C : Ev p H4 H12 := e7.trans (e8.trans ((Ev.new hl1).trans (e9.trans (e10.trans (e11.trans ((Ev.new hl2).trans (e12.trans (e13.trans ((Ev.new hl3).trans e14)))))))))
  obtain ⟨xs,bs,hb8,rb8,gb,lb⟩ := fb4.done nb e4C
  obtain ⟨ys,es,he8,re8,ge,le⟩ := fe4.done ne e4C
  refine ⟨b,xs,rfl,.inl ⟨Am.of hb8,fun c1 hc1 => ⟨e,ys,rfl,.inl ⟨Am.of (by rw [Ap (Bd he8 hc1)]; exact he8),fun c2 hc2 c3 hc3 c4 hc4 => ?_⟩⟩⟩⟩
  have nA := Ab.new (o := .tup xs) hc1
  have nB := Ab.new (o := .tup ys) hc2
  have nC := Ab.new (o := .tup [.int low,.int hi,.int st]) hc3
  have nD := Ab.new (o := .tup [.ref c1,.ref c2,.ref c3]) hc4
  have sAll := nA.trans (nB.trans (nC.trans nD))
  refine q _ _ bs es low hi st ⟨gb,by omega,by omega,ge,by omega,by omega,by omega,by omega,hi2⟩ ?_ (fb4.ev.trans (e4C.trans (Ev.same sAll))) (pn12.same sAll)
  exact Aa.tup Ai (.cons (Aa.tup ((nB.trans (nC.trans nD)) _ _ Ai) (Ad.ev (Ev.same sAll) _ _ rb8)) (.cons (Aa.tup ((nC.trans nD) _ _ Ai) (Ad.ev (Ev.same sAll) _ _ re8)) (.cons (Aa.tup (nD _ _ Ai) (.cons Aa.int (.cons Aa.int (.cons Aa.int .nil)))) .nil)))
 ·exact h.elim
end
end MF
end
section
namespace MF
open PySem PySem.Spec PyProof.Rows L2
variable {p : Addr} {H : Hp} {v : V}
theorem B1 {i lo hi : Int} (h1 : lo <= i) (h2 : i <= hi) : AN (.int i) lo hi = true := by unfold AN; dsimp only; rw [decide_eq_true h1,decide_eq_true h2]; rfl
theorem Em {ds : List PyData} {lo hi : Int} (h1 : lo <= (ds.length : Int)) (h2 : (ds.length : Int) <= hi) : AQ (.tuple ds) lo hi = true := by unfold AQ; dsimp only; rw [decide_eq_true h1,decide_eq_true h2]; rfl
theorem Qm {P : PL} (h : P.ok) : B9 P.d = true := by
 have b1 := h.b1
 have b4 := h.b4
 have e4 := h.e4
 have hb : Eh (.tuple (P.bs.map bD)) = true := by
  unfold Eh
  dsimp only
  rw [Em (by rw [List.length_map]; omega) (by rw [List.length_map]; omega),Bool.true_and,List.all_eq_true]
  intro d hd
  obtain ⟨q,hq,rfl⟩ := List.mem_map.mp hd
  obtain ⟨q1,q2,q3,q4⟩ := h.b q hq
  unfold DJ
  dsimp only
  rw [B1 q1 q2,B1 q3 q4]; rfl
 have he : Ei (.tuple (P.es.map eD)) = true := by
  unfold Ei
  dsimp only
  rw [Em (by rw [List.length_map]; omega) (by rw [List.length_map]; omega),Bool.true_and,List.all_eq_true]
  intro d hd
  obtain ⟨q,hq,rfl⟩ := List.mem_map.mp hd
  obtain ⟨q1,q2,q3,q4,q5,q6⟩ := h.e q hq
  unfold Di
  dsimp only
  rw [B1 q1 q2,B1 q3 q4,B1 q5 q6]; rfl
 have h0 := h.lo0
 have h1 := h.ls
 have h2 := h.sh
 have h3 := h.h4
 have hm : Dj (.tuple [.int P.lo,.int P.hi,.int P.st]) = true := by
  unfold Dj
  dsimp only
  rw [B1 (by omega) h3,B1 (by omega) h2,B1 h0 h1]; rfl
 unfold B9 PL.d
 dsimp only
 rw [hb,he,hm]; rfl
def sp_need_plant : Sp := fun vs H Q _ => match vs with | [v] => ∃ p P,PL.ok P /\ Aa p H P.d v /\ ∀ H',Ab H H' -> Q .non H' | _ => False
def sp_is_fault : Sp := fun vs H Q _ => match vs with | [v,.int nb,.int hs] => ∃ p x n h,FT.ok x n h /\ nb = (n : Int) /\ hs = (h : Int) /\ Aa p H x.d v /\ ∀ H',Ab H H' -> Q (.bl true) H' | _ => False
def Gg : Sp := fun vs H Q _ => match vs with | [.ref a,.int m] => ∃ ws : List Bool,H a = some (.lst (ws.map wV)) /\ ∀ H',Ab H H' -> Q (.int (BE ws m)) H' | _ => False
def Gh : Sp := fun vs H Q _ => match vs with | [v,.int b,.int h] => ∃ p fs,Aa p H (.tuple (fs.map FT.d)) v /\ fs.length <= 1000 /\ ∀ a H',Ab H H' -> H' a = some (.lst ((Bn fs b h).map wV)) -> Q (.ref a) H' | _ => False
def Gi : Sp := fun vs H Q _ => match vs with | [v,u,.int h] => ∃ p bs fs,Aa p H (.tuple (bs.map bD)) v /\ Aa p H (.tuple (fs.map FT.d)) u /\ bs.length <= 1000 /\ fs.length <= 1000 /\ ret H Q p (A3 (BN bs fs h)) | _ => False
def Gj : Sp := fun vs H Q _ => match vs with | [v,.int h] => ∃ p q,Aa p H (eD q) v /\ 1 <= q.2.2 /\ Q (.int (drawn q h)) H | _ => False
theorem Aa.plant {P : PL} (r : Aa p H P.d v) : ∃ A B E M xb xe,v = .ref A /\ H A = some (.tup [.ref B,.ref E,.ref M]) /\ H B = some (.tup xb) /\ Ad p H (P.bs.map bD) xb /\ H E = some (.tup xe) /\ Ad p H (P.es.map eD) xe /\ H M = some (.tup [.int P.lo,.int P.hi,.int P.st]) := by
 unfold PL.d at r
 obtain ⟨A,xs,rfl,hA,rs⟩ := Aa.shape r
 obtain ⟨x,y,z,rfl,rx,ry,rz⟩ := Ad.three rs
 obtain ⟨B,xb,rfl,hB,rb⟩ := Aa.shape rx
 obtain ⟨E,xe,rfl,hE,re⟩ := Aa.shape ry
 obtain ⟨M,xm,rfl,hM,rm⟩ := Aa.shape rz
 obtain ⟨m1,m2,m3,rfl,r1,r2,r3⟩ := Ad.three rm
 unfold Aa at r1 r2 r3
 subst r1 r2 r3
 exact ⟨A,B,E,M,xb,xe,rfl,hA,hB,rb,hE,re,hM⟩
theorem Aa.story {S : SY} (r : Aa p H S.d v) : ∃ A B E xf,v = .ref A /\ H A = some (.tup [.ref B,.ref E]) /\ H B = some (.tup (S.ex.map V.int)) /\ H E = some (.tup xf) /\ Ad p H (S.fs.map FT.d) xf := by
 unfold SY.d at r
 obtain ⟨A,xs,rfl,hA,rs⟩ := Aa.shape r
 obtain ⟨x,y,rfl,rx,ry⟩ := Ad.two rs
 obtain ⟨B,xb,rfl,hB,rb⟩ := Aa.shape rx
 obtain ⟨E,xe,rfl,hE,re⟩ := Aa.shape ry
 rw [Ad.ints rb] at hB
 exact ⟨A,B,E,xe,rfl,hA,hB,hE,re⟩
section
variable {P : Program} {w : World} {K : PySem.W.Frag} {mg : Str -> Option Value} {base : Heap}
theorem Qn : Ax ["plant"] ["plant"] (Aq s_need_plant) := AF
theorem sc_is_fault : Ax ["thing","boilers","hours","boiler","word","first","last"] ["thing","boilers","hours"] (Aq s_is_fault) := AF
theorem sc_is_story : Ax ["plant","thing","extra","faults"] ["plant","thing"] (Aq s_is_story) := AF
theorem Qo : Ax ["plant","story"] ["plant","story"] (Aq s_need_story) := AF
theorem Qp : Ax ["words","make"] ["words","make"] (Aq s_cap_under) := AF
theorem Qq (F : Df K mg "cap_under" s_cap_under ["words","make"]) (T : Tx mg)  : Fn P w K mg base 1 "cap_under" ["words","make"] Gg := by
 refine F.fn Qp (fun vs H Q E h => ?_) (fun f cdv A outer s H vs Q E hr h => ?_)
 ·unfold Gg at h; split at h; rfl; exact h.elim
 refine ⟨_,(Aj (A8 (A7 (EG K (by rfl)) AK (cx 0 (by rfl)) (by with_unfolding_all rfl)) (Ao (Au Ae)) A5) (Aj (A8 (A7 (EG K (by rfl)) AK (cx 0 (by rfl)) (by with_unfolding_all rfl)) (Ao (Au (As Ft (cx 1 (by rfl)) Ae))) A5) (Ao (Au (cx 1 (by rfl)))))),?_⟩
 unfold Gg at h
 split at h
 ·rename_i a m
  obtain ⟨ws,ha,q⟩ := h
  refine ⟨a,_,rfl,.inl (Am.of ha),rfl,Fz,⟨fun c => ?_,fun c => ?_⟩⟩
  ·rw [if_neg (by decide),Fy] at c
   have e : BE ws m = 0 := by unfold BE; rw [if_pos c]
   rw [e] at q
   exact q _ (Ab.refl _)
  ·rw [if_neg (by decide),Fy] at c
   refine ⟨a,_,rfl,.inl (Am.of ha),rfl,Fz,⟨fun c2 => ?_,fun c2 => ?_⟩⟩
   ·rw [if_neg (by decide),HM] at c2
    have e : BE ws m = m / 2 := by unfold BE; rw [if_neg (by rw [c]; decide),if_pos c2]
    rw [e] at q
    exact ⟨⟨by decide,by decide⟩,q _ (Ab.refl _)⟩
   ·rw [if_neg (by decide),HM] at c2
    have e : BE ws m = m := by unfold BE; rw [if_neg (by rw [c]; decide),if_neg (by rw [c2]; decide)]
    rw [e] at q
    exact q _ (Ab.refl _)
 ·exact h.elim
theorem Qr : Ax ["faults","boiler","hour"] ["faults","boiler","hour"] (Aq s_words_for) := AF
theorem Qs (F : Df K mg "words_for" s_words_for ["faults","boiler","hour"]) (T : Tx mg)  : Fn P w K mg base 1 "words_for" ["faults","boiler","hour"] Gh := by
 refine F.fn Qr (fun vs H Q E h => ?_) (fun f cdv A outer s H vs Q E hr h => ?_)
 ·unfold Gh at h; split at h; rfl; exact h.elim
 refine ⟨_,(Ao (Au (BD ["at","word","first","last","boiler","hour"] [none,none,none,none,some 1,some 2] rfl (Cj K (cx 0 (by rfl)) (by rfl)) (AM.of rfl) (fun _ _ _ _ => (AI K (n := 4) (Ah (Ag 0 (AS (by rfl)) (by rfl)) (Ah (Ag 1 (AS (by rfl)) (by rfl)) (Ah (Ag 2 (AS (by rfl)) (by rfl)) (Ah (Ag 3 (AS (by rfl)) (by rfl)) AH (by rfl)) (by rfl)) (by rfl)) (by rfl)) (by rfl) (by rfl) (by rfl) (by rfl))) (fun _ _ _ _ => (Fg (PW.pt (Hv (A7 CT (cx 0 (by rfl)) (cx 4 (by rfl)) (A6 _)) (Iy (M6 Dc Dc (cx 2 (by rfl)) (cx 5 (by rfl)) (cx 3 (by rfl)) (by with_unfolding_all rfl))))))) (fun _ _ _ _ => (cx 1 (by rfl))) (by intro _; rfl)))),?_⟩
 unfold Gh at h
 split at h
 ·rename_i v b hr'
  obtain ⟨p,fs,r,hl,q⟩ := h
  obtain ⟨A,xs,rfl,hA,rs⟩ := Aa.shape r
  have ln := rs.len
  rw [List.length_map] at ln
  refine ⟨A,rfl,⟨xs,Af.of hA⟩,CA (xs := xs) (fun i ys H' => Ab H H' /\ ys = (Bn (fs.take i) b hr').map wV) (by omega) ⟨Ab.refl _,rfl⟩ (fun i ys H' h => ?_) (fun i ys H' _ h => Af.of (h.1 _ _ hA)) (fun i x ys H' hx h => ?_) fun ys H' h => ?_⟩
  ·rw [h.2,List.length_map]
   unfold Bn
   rw [List.length_map]
   exact Nat.le_trans (List.length_filter_le _ _) (by rw [List.length_take]; omega)
  ·obtain ⟨f,hf,rd⟩ := Ad.mapGot rs hx
   obtain ⟨l,zs,rfl,hl',rz⟩ := Aa.shape (Aa.ev (Ev.same h.1) _ _ rd)
   obtain ⟨y1,y2,y3,y4,rfl,r1,r2,r3,r4⟩ := Ad.four rz
   unfold Aa at r1 r2 r3 r4
   subst r1 r2 r3 r4
   have nx := JS (b := b) (h := hr') hf
   have no : BR b hr' f = false -> Ab H H' /\ ys = (Bn (fs.take (i + 1)) b hr').map wV := fun e => ⟨h.1,by rw [nx,e,if_neg (by decide)]; exact h.2⟩
   refine ⟨l,_,rfl,Af.of hl',rfl,_,_,rfl,_,_,rfl,_,_,rfl,_,_,rfl,rfl,⟨rfl,rfl,trivial⟩,rfl,⟨fun c1 => ⟨fun c2 => ⟨fun c3 => ?_,fun c3 => no ?_⟩,fun c2 => ⟨fun z => (by cases z),fun _ => no ?_⟩⟩,fun c1 => ⟨fun z => (by cases z),fun _ => no ?_⟩⟩⟩
   ·have e : BR b hr' f = true := by
     rw [CM] at c1
     unfold BR; rw [c1,c2,c3]; rfl
    refine ⟨h.1,?_⟩
    rw [nx,if_pos e,List.map_append,h.2]; rfl
   ·unfold BR; rw [c3,Bool.and_false]
   ·unfold BR; rw [c2,Bool.and_false,Bool.false_and]
   ·rw [CM] at c1
    unfold BR; rw [c1,Bool.false_and,Bool.false_and]
  ·intro m hm
   refine q m _ (h.1.trans (Ab.new hm)) ?_
   rw [Ai,h.2,List.take_of_length_le (by omega)]
 ·exact h.elim
theorem Qt : Ax ["boilers","faults","hour"] ["boilers","faults","hour"] (Aq s_caps_in) := AF
theorem Qu (F : Df K mg "caps_in" s_caps_in ["boilers","faults","hour"]) (T : Tx mg) (D_cap_under : Fn P w K mg base 1 "cap_under" ["words","make"] Gg) (D_words_for : Fn P w K mg base 1 "words_for" ["faults","boiler","hour"] Gh) : Fn P w K mg base 2 "caps_in" ["boilers","faults","hour"] Gi := by
 refine F.fn Qt (fun vs H Q E h => ?_) (fun f cdv A outer s H vs Q E hr h => ?_)
 ·unfold Gi at h; split at h; rfl; exact h.elim
 refine ⟨_,(Ao (Au (BL (CB K (by rfl)) rfl T.b_tuple Ci (Ak (BD ["at","make","coal","faults","hour"] [none,none,none,some 1,some 2] rfl (Fv P w K rfl T.b_enumerate (Ak (cx 0 (by rfl)) (by rfl)) (by rfl) (by rfl) (by rfl) (by rfl)) (AM.of rfl) (fun _ _ _ _ => (AI K (n := 2) (Ah (Ag 0 (AS (by rfl)) (by rfl)) (Ah (AI K (n := 2) (Ah (Ag 1 (AS (by rfl)) (by rfl)) (Ah (Ag 2 (AS (by rfl)) (by rfl)) AH (by rfl)) (by rfl)) (by rfl) (by rfl) (by rfl) (by rfl)) AH (by rfl)) (by rfl)) (by rfl) (by rfl) (by rfl) (by rfl))) (fun _ _ _ _ => Bw) (fun _ _ _ _ => (An D_cap_under (hr.mono (by decide)) rfl (Al (An D_words_for (hr.mono (by decide)) rfl (AA (cx 3 (by rfl)) (cx 0 (by rfl)) (cx 4 (by rfl)) (by rfl)) (by decide) (by rfl) (by rfl)) (cx 1 (by rfl)) (by rfl)) (by decide) (by rfl) (by rfl))) (by intro _; rfl)) (by rfl)) (by decide) (by decide) (by rfl) (by rfl)))),?_⟩
 unfold Gi at h
 split at h
 ·rename_i v u hour
  obtain ⟨p,bs,fs,r,ru,lb,lf,q⟩ := h
  obtain ⟨A,xs,rfl,hA,rs⟩ := Aa.shape r
  have ln := rs.len
  rw [List.length_map] at ln
  refine ⟨A,rfl,⟨xs,Af.of hA⟩,walk_enum (xs := xs) (fun i ys H' => Ab H H' /\ ys = ((BN bs fs hour).take i).map V.int) (by omega) ⟨Ab.refl _,rfl⟩ (fun i ys H' h => by rw [h.2,List.length_map,List.length_take]; omega) (fun i ys H' h => Af.of (h.1 _ _ hA)) (fun i x ys H' T hx h hT => ?_) fun ys H' h => ?_⟩
  ·obtain ⟨f,hf,rd⟩ := Ad.mapGot rs hx
   have s2 : Ab H (upd H' T (.tup [.int i,x])) := h.1.trans (Ab.new hT)
   obtain ⟨l,zs,rfl,hl',rz⟩ := Aa.shape (Aa.ev (Ev.same s2) _ _ rd)
   obtain ⟨y1,y2,rfl,r1,r2⟩ := Ad.two rz
   unfold Aa at r1 r2
   subst r1 r2
   refine ⟨T,_,rfl,Af.of Ai,rfl,_,_,rfl,_,_,rfl,l,_,rfl,Af.of hl',rfl,_,_,rfl,_,_,rfl,rfl,rfl,⟨rfl,rfl,trivial⟩,fun _ => ?_,fun z => by cases z⟩
   refine ⟨p,fs,Aa.ev (Ev.same s2) _ _ ru,lf,fun a H3 s3 ha => ⟨_,ha,fun H4 s4 => ⟨s2.trans (s3.trans s4),?_⟩⟩⟩
   rw [Bm (HJ hf),List.map_append,h.2]; rfl
  ·intro m hm
   refine ⟨m,_,rfl,.inl ⟨Am.of Ai,fun t ht => ?_⟩⟩
   refine q _ _ (h.1.trans ((Ab.new hm).trans (Ab.new ht))) (Aa.row ?_)
   rw [Ai,h.2,List.take_of_length_le (by rw [HK]; omega)]
 ·exact h.elim
theorem sc_caps_of : Ax ["plant","story","extra","faults"] ["plant","story"] (Aq s_caps_of) := AF
theorem sc_drawn_by : Ax ["engine","hour","draw","first","every"] ["engine","hour"] (Aq s_drawn_by) := AF
theorem Qv (F : Df K mg "drawn_by" s_drawn_by ["engine","hour"]) (T : Tx mg)  : Fn P w K mg base 1 "drawn_by" ["engine","hour"] Gj := by
 refine F.fn sc_drawn_by (fun vs H Q E h => ?_) (fun f cdv A outer s H vs Q E hr h => ?_)
 ·unfold Gj at h; split at h; rfl; exact h.elim
 refine ⟨_,(Aj (Bb (cx 0 (by rfl)) (AI K (n := 3) (Ah (Ag 2 sc_drawn_by.nd (by rfl)) (Ah (Ag 3 sc_drawn_by.nd (by rfl)) (Ah (Ag 4 sc_drawn_by.nd (by rfl)) AH (by rfl)) (by rfl)) (by rfl)) (by rfl) (by rfl) (by rfl) (by rfl)) (by rfl) (by rfl) (by rfl)) (Aj (A8 (PW.pt (JE (A7 EF (cx 1 (by rfl)) (cx 3 (by rfl)) (A6 _)) (Iz (A7 IR (As DY (As Bk (cx 1 (by rfl)) (cx 3 (by rfl))) (cx 4 (by rfl))) Ae (A6 _))))) (Ao (Au Ae)) A5) (Ao (Au (cx 2 (by rfl)))))),?_⟩
 unfold Gj at h
 split at h
 ·rename_i v hour
  obtain ⟨p,e,r,e1,q⟩ := h
  obtain ⟨A,xs,rfl,hA,rs⟩ := Aa.shape r
  obtain ⟨y1,y2,y3,rfl,r1,r2,r3⟩ := Ad.three rs
  unfold Aa at r1 r2 r3
  subst r1 r2 r3
  refine ⟨A,_,rfl,Af.of hA,rfl,_,_,rfl,_,_,rfl,_,_,rfl,rfl,⟨fun c => ⟨fun _ => ?_,fun z => by cases z⟩,fun c => ⟨by omega,rfl,⟨fun c2 => ?_,fun c2 => ?_⟩⟩⟩⟩
  ·have z : drawn e hour = 0 := by unfold drawn; rw [if_pos (.inl (of_decide_eq_true c))]
   rw [z] at q; exact q
  ·have z : drawn e hour = 0 := by
    unfold drawn; exact if_pos (.inr fun z => Nx c2 (congrArg V.int z))
   rw [z] at q; exact q
  ·have z : drawn e hour = e.1 := by
    unfold drawn; rw [if_neg ?_]
    rintro (z | z)
    ·exact absurd (decide_eq_true z) (by rw [c]; decide)
    ·apply z
     have : V.int ((hour - e.2.1) % e.2.2) = V.int 0 := by simpa using c2
     injection this
   rw [z] at q; exact q
 ·exact h.elim
theorem sc_draws_of : Ax ["plant","story","engines"] ["plant","story"] (Aq s_draws_of) := AF
end
end MF
end
section
namespace MF
open PySem PySem.Spec PyProof.Rows L2
theorem KB : ∀ {bs : List PyData},(∀ d ∈ bs,GoodB d) -> ∃ l : List (Int × Int),bs = l.map bD /\ ∀ q ∈ l,1 <= q.1 /\ q.1 <= 9 /\ 1 <= q.2 /\ q.2 <= 9
 | [],_ => ⟨[],rfl,fun _ h => nomatch h⟩
 | d :: ds,h => by
  obtain ⟨l,e,g⟩ := KB fun x hx => h x (List.mem_cons_of_mem _ hx)
  obtain ⟨m,c,rfl,a1,a2,a3,a4⟩ := h d List.mem_cons_self
  refine ⟨(m,c) :: l,by rw [e]; rfl,fun q hq => ?_⟩
  rcases List.mem_cons.mp hq with rfl | hq
  ·exact ⟨a1,a2,a3,a4⟩
  ·exact g q hq
theorem KC : ∀ {es : List PyData},(∀ d ∈ es,GoodE d) -> ∃ l : List (Int × Int × Int),es = l.map eD /\ ∀ q ∈ l,1 <= q.1 /\ q.1 <= 9 /\ 0 <= q.2.1 /\ q.2.1 <= 7 /\ 1 <= q.2.2 /\ q.2.2 <= 8
 | [],_ => ⟨[],rfl,fun _ h => nomatch h⟩
 | d :: ds,h => by
  obtain ⟨l,e,g⟩ := KC fun x hx => h x (List.mem_cons_of_mem _ hx)
  obtain ⟨m,c,k,rfl,a1,a2,a3,a4,a5,a6⟩ := h d List.mem_cons_self
  refine ⟨(m,c,k) :: l,by rw [e]; rfl,fun q hq => ?_⟩
  rcases List.mem_cons.mp hq with rfl | hq
  ·exact ⟨a1,a2,a3,a4,a5,a6⟩
  ·exact g q hq
theorem GoodP.pl {bs es : List PyData} {lo hi st : Int} (g : GoodP bs es lo hi st) : ∃ P : PL,P.ok /\ KA bs es lo hi st = P.d := by
 obtain ⟨lb,rfl,hb⟩ := KB g.b
 obtain ⟨le,rfl,he⟩ := KC g.e
 have b1 := g.b1
 have b4 := g.b4
 have e4 := g.e4
 rw [List.length_map] at b1 b4 e4
 exact ⟨⟨lb,le,lo,hi,st⟩,⟨hb,b1,b4,he,e4,g.lo0,g.ls,g.sh,g.h4⟩,rfl⟩
theorem KD (r : List Int) : Ca (A3 r) = true := by
 unfold Ca
 exact Ge fun d hd => by
  obtain ⟨i,_,rfl⟩ := List.mem_map.mp hd
  rfl
theorem Qw (k : Bool) : 0 < (1 : Int) + (if k = true then 1 else 0) /\ (1 : Int) + (if k = true then 1 else 0) < 1073741824 := by cases k <;> decide
def GoodF (n h : Nat) (d : PyData) : Prop := ∃ x : FT,d = x.d /\ x.ok n h
theorem GoodF.nm {n h : Nat} {d : PyData} (g : GoodF n h d) : Ca d = true := by obtain ⟨x,rfl,_⟩ := g; rfl
theorem KG {n h : Nat} : ∀ {es : List PyData},(∀ d ∈ es,GoodF n h d) -> ∃ l : List FT,es = l.map FT.d /\ ∀ q ∈ l,q.ok n h
 | [],_ => ⟨[],rfl,fun _ h => nomatch h⟩
 | d :: ds,hh => by
  obtain ⟨l,e,g⟩ := KG fun x hx => hh x (List.mem_cons_of_mem _ hx)
  obtain ⟨x,rfl,a1⟩ := hh d List.mem_cons_self
  refine ⟨x :: l,by rw [e]; rfl,fun q hq => ?_⟩
  rcases List.mem_cons.mp hq with rfl | hq
  ·exact a1
  ·exact g q hq
def Gk : Sp := fun vs H Q _ => match vs with | [.ref p,v,.int m] => AU p H /\ 1 <= m /\ m <= 8 /\ ∃ P,PL.ok P /\ Aa p H P.d v /\ ∀ u H' S,SY.ok S P.bs.length -> Aa p H' S.d u -> Ev p H H' -> AU p H' -> Q u H' | _ => False
def EU : Sp := fun vs H Q _ => match vs with | [v,u] => ∃ p P S,PL.ok P /\ SY.ok S P.bs.length /\ Aa p H P.d v /\ Aa p H S.d u /\ ret H Q p (JR P S) | _ => False
def Gm : Sp := fun vs H Q _ => match vs with | [v,u] => ∃ p P S,PL.ok P /\ SY.ok S P.bs.length /\ Aa p H P.d v /\ Aa p H S.d u /\ ret H Q p (HI P S) | _ => False
section
variable {P : Program} {w : World} {K : PySem.W.Frag} {mg : Str -> Option Value} {base : Heap}
theorem sc__law_story : Ax ["_law_pen_here","_law_plant_here","_law_most","_law_hours","_law_total","_law_wide","_law_extra","_law_faults","_law_turn","_law_first","_law_last"] ["_law_pen_here","_law_plant_here","_law_most"] (Aq s__law_story) := AF
theorem Qx (F : Df K mg "_law_story" s__law_story ["_law_pen_here","_law_plant_here","_law_most"]) (T : Tx mg) (D__law_draw : Gd P w K mg base) : Fn P w K mg base 2 "_law_story" ["_law_pen_here","_law_plant_here","_law_most"] Gk := by
 refine F.fn sc__law_story (fun vs H Q E h => ?_) (fun f cdv A outer s H vs Q E hr h => ?_)
 ·unfold Gk at h; split at h; rfl; exact h.elim
 refine ⟨_,(Aj (IE (i := 3) (j := 4) rfl sc__law_story.nd rfl rfl (by decide) rfl rfl (Al (As A2 Ae (An D__law_draw (hr.mono (by decide)) rfl (Al (cx 0 (by rfl)) (cx 2 (by rfl)) (by rfl)) (by decide) (by rfl) (by rfl))) (AC (Fw rfl) rfl T.b_sum boot_sum (Ak (BD ["_law_make","_law_coal"] [none,none] rfl (Cj K (AD (AT K (by rfl)) (cx 1 (by rfl)) Ae (fun _ _ => rfl)) (by rfl)) (AM.of rfl) (fun _ _ _ _ => (AI K (n := 2) (Ah (Ag 0 (AS (by rfl)) (by rfl)) (Ah (Ag 1 (AS (by rfl)) (by rfl)) AH (by rfl)) (by rfl)) (by rfl) (by rfl) (by rfl) (by rfl))) (fun _ _ _ _ => Bw) (fun _ _ _ _ => (cx 0 (by rfl))) (by intro _; rfl)) (by rfl)) (by decide) (by decide) (by rfl) (by rfl)) (by rfl)) (by rfl) (by rfl)) (Aj (AB (i := 5) sc__law_story.nd rfl (Ay (by rfl)) (AD (Bz K (by rfl)) (Bi (A4 Ae (As A2 Ae (As Ft (cx 4 (by rfl)) Ae)) (As A2 Ae (cx 4 (by rfl))) Ae (by rfl))) (An D__law_draw (hr.mono (by decide)) rfl (Al (cx 0 (by rfl)) Ae (by rfl)) (by decide) (by rfl) (by rfl)) (fun _ _ => rfl)) (by rfl) (Az (by rfl))) (Aj (AB (i := 6) sc__law_story.nd rfl (Ay (by rfl)) (BL (CB K (by rfl)) rfl T.b_tuple Ci (Ak (BD ["_law_hour","_law_pen_here","_law_wide"] [none,some 0,some 5] rfl (C8 rfl T.b_range (Ak (cx 3 (by rfl)) (by rfl)) (by rfl)) (AM.of rfl) (fun _ _ _ _ => (Ag 0 (AS (by rfl)) (by rfl))) (fun _ _ _ _ => Bw) (fun _ _ _ _ => (An D__law_draw (hr.mono (by decide)) rfl (Al (cx 1 (by rfl)) (AC (GR rfl) rfl T.b_min boot_min (Al Ae (cx 2 (by rfl)) (by rfl)) (by decide) (by decide) (by rfl) (by rfl)) (by rfl)) (by decide) (by rfl) (by rfl))) (by intro _; rfl)) (by rfl)) (by decide) (by decide) (by rfl) (by rfl)) (by rfl) (Az (by rfl))) (Aj (AB (i := 7) sc__law_story.nd rfl (Ay (by rfl)) (Bi BJ) (by rfl) (Az (by rfl))) (Aj (BI PassesOwn.never rfl (C8 rfl T.b_range (Ak (AD (Bz K (by rfl)) (Bi (A4 Ae Ae Ae (An D__law_draw (hr.mono (by decide)) rfl (Al (cx 0 (by rfl)) Ae (by rfl)) (by decide) (by rfl) (by rfl)) (by rfl))) (An D__law_draw (hr.mono (by decide)) rfl (Al (cx 0 (by rfl)) Ae (by rfl)) (by decide) (by rfl) (by rfl)) (fun _ _ => rfl)) (by rfl)) (by rfl)) (Ag 8 sc__law_story.nd (by rfl)) (Aj (AB (i := 9) sc__law_story.nd rfl (Ay (by rfl)) (An D__law_draw (hr.mono (by decide)) rfl (Al (cx 0 (by rfl)) (cx 3 (by rfl)) (by rfl)) (by decide) (by rfl) (by rfl)) (by rfl) (Az (by rfl))) (Aj (AB (i := 10) sc__law_story.nd rfl (Ay (by rfl)) (As A2 (cx 9 (by rfl)) (An D__law_draw (hr.mono (by decide)) rfl (Al (cx 0 (by rfl)) (As Bk (cx 3 (by rfl)) (cx 9 (by rfl))) (by rfl)) (by decide) (by rfl) (by rfl))) (by rfl) (Az (by rfl))) (Ao (Br (B5 PySem.F.plainAttrs_list PySem.F.slot_list_append PySem.F.type_list_append Cf (cx 7 (by rfl)) (Ak (A9 (A4 (An D__law_draw (hr.mono (by decide)) rfl (Al (cx 0 (by rfl)) (AC (BM K (by rfl)) rfl T.b_len PySem.boot_len (Ak (AD (AT K (by rfl)) (cx 1 (by rfl)) Ae (fun _ _ => rfl)) (by rfl)) (by decide) (by decide) (by rfl) (by rfl)) (by rfl)) (by decide) (by rfl) (by rfl)) (AD (Bz K (by rfl)) (Bi (Al AK AK (by rfl))) (An D__law_draw (hr.mono (by decide)) rfl (Al (cx 0 (by rfl)) Ae (by rfl)) (by decide) (by rfl) (by rfl)) (fun _ _ => rfl)) (cx 9 (by rfl)) (cx 10 (by rfl)) (by rfl))) (by rfl)) (by rfl) (by rfl) (by rfl) (by rfl) (by rfl)) (by rfl))))) (by intro _; rfl)) (Ao (Au (A9 (Al (cx 6 (by rfl)) (BL (CB K (by rfl)) rfl T.b_tuple Ci (Ak (cx 7 (by rfl)) (by rfl)) (by decide) (by decide) (by rfl) (by rfl)) (by rfl)))))))))),?_⟩
 unfold Gk at h
 split at h
 ·rename_i p v m
  obtain ⟨pn,m1,m8,P,ok,r,q⟩ := h
  have b1 := ok.b1
  have b4 := ok.b4
  refine ⟨pn,by omega,by omega,fun g1 H1 a1 c1 e1 pn1 => ?_⟩
  obtain ⟨PA,PB,PE,PM,xb,xe,rfl,pA,pB,rb,pE,re,pM⟩ := Aa.plant (Aa.ev e1 _ _ r)
  have lb := rb.len
  rw [List.length_map] at lb
  refine ⟨PA,_,0,.ref PB,rfl,rfl,Af.of pA,rfl,PB,rfl,⟨xb,Af.of pB⟩,CA (xs := xb) (fun i ys H' => Ab H1 H' /\ ys = ((P.bs.map (·.1)).take i).map V.int) (by omega) ⟨Ab.refl _,rfl⟩ (fun i ys H' h => by rw [h.2,List.length_map,List.length_take]; omega) (fun i ys H' _ h => Af.of (h.1 _ _ pB)) (fun i x ys H' hx h => ?_) fun ys H2 h => ?_⟩
  ·obtain ⟨f,hf,rd⟩ := Ad.mapGot rb hx
   obtain ⟨l,zs,rfl,hl',rz⟩ := Aa.shape (Aa.ev (Ev.same h.1) _ _ rd)
   obtain ⟨y1,y2,rfl,r1,r2⟩ := Ad.two rz
   unfold Aa at r1 r2
   subst r1 r2
   refine ⟨l,_,rfl,Af.of hl',rfl,_,_,rfl,_,_,rfl,rfl,trivial,fun _ => ⟨h.1,?_⟩,fun z => by cases z⟩
   have hf' : (P.bs.map (·.1))[i]? = some f.1 := by rw [List.getElem?_map,hf]; rfl
   rw [Bm hf',List.map_append,h.2]; rfl
  intro lm hlm
  have eT : 0 <= (P.bs.map (·.1)).sum /\ (P.bs.map (·.1)).sum <= 9 * (P.bs.map (·.1)).length := JT fun i hi => by
   obtain ⟨qq,hqq,rfl⟩ := List.mem_map.mp hi
   have := ok.b qq hqq
   omega
  rw [List.length_map] at eT
  have n1 := Ab.new (o := .lst ys) hlm
  refine ⟨lm,P.bs.map (·.1),rfl,?_,_,_,rfl,⟨by decide,by decide⟩,fun l1 hl1 => ?_⟩
  ·rw [Ai,h.2,List.take_of_length_le (by rw [List.length_map]; omega)]
  have e2 : Ev p H (upd H2 lm (.lst ys)) := e1.trans (Ev.same (h.1.trans n1))
  have pn2 : AU p (upd H2 lm (.lst ys)) := pn1.same (h.1.trans n1)
  generalize upd H2 lm (.lst ys) = H3 at hl1 e2 pn2 ⊢
  generalize (P.bs.map (·.1)).sum = T at eT
  refine ⟨pn2.new hl1,by decide,by decide,fun g2 H4 a4 c4 e4 pn4 => ?_⟩
  obtain ⟨wd,hwd,hat⟩ := C6 (ns := [1,1 + T / 2,1 + T,21]) a4 (by simpa using c4)
  have hwd' : wd = 1 \/ wd = 1 + T / 2 \/ wd = 1 + T \/ wd = 21 := by simpa using hwd
  have w1 : 1 <= wd := by omega
  refine ⟨l1,_,g2,.int wd,rfl,rfl,Am.of (e4.lst Ai (pn2.ne hl1)),hat,?_⟩
  have eA : Ev p H H4 := e2.trans ((Ev.new hl1).trans e4)
  refine ⟨_,rfl,by omega,by omega,Jx (n := (1 + g1).toNat) (fun i ys H5 => Ev p H4 H5 /\ AU p H5 /\ ∃ ns : List Int,ys = ns.map V.int /\ ns.length = i /\ ∀ u ∈ ns,0 <= u /\ u <= 20) (by omega) ⟨Ev.refl,pn4,[],rfl,rfl,(fun _ h => nomatch h)⟩ (fun i ys H5 h => ?_) (fun i ys H5 hi h => ?_) fun ys H5 h => ?_⟩
  ·obtain ⟨_,_,ns,rfl,hn,_⟩ := h
   rw [List.length_map]; omega
  ·obtain ⟨e5,pn5,ns,rfl,hn,hu⟩ := h
   refine ⟨⟨rfl,rfl,trivial⟩,fun _ => ⟨21,wd,rfl,pn5,by split <;> omega,by split <;> omega,fun g6 H6 a6 c6 e6 pn6 => ⟨e5.trans e6,pn6,ns ++ [g6],by rw [List.map_append]; rfl,by rw [List.length_append,hn]; rfl,fun u hu' => ?_⟩⟩,fun z => by cases z⟩
   rcases List.mem_append.mp hu' with h | h
   ·exact hu u h
   ·rw [List.mem_singleton.mp h]
    have : (if wd < 21 then wd else 21) <= 21 := by split <;> omega
    omega
  obtain ⟨e5,pn5,ns,rfl,hn,hu⟩ := h
  intro l2 hl2
  refine ⟨l2,_,rfl,.inl ⟨Am.of Ai,fun t1 ht1 b hb => ?_⟩⟩
  have n2 := Ab.new (o := .lst (ns.map V.int)) hl2
  have n3 := Ab.new (o := .tup (ns.map V.int)) ht1
  have kt := Ai (H := upd H5 l2 (.lst (ns.map V.int))) (a := t1) (o := .tup (ns.map V.int))
  have e6 : Ev p H (upd (upd H5 l2 (.lst (ns.map V.int))) t1 (.tup (ns.map V.int))) := (eA.trans e5).trans (Ev.same (n2.trans n3))
  have pn6 := pn5.same (n2.trans n3)
  generalize upd (upd H5 l2 (.lst (ns.map V.int))) t1 (.tup (ns.map V.int)) = H6 at hb kt e6 pn6 n3 ⊢
  have nb : b ≠ p := pn6.ne hb
  have hbH : H b = none := by
   cases z : H b with
   | none => rfl
   | some o => exact ((e6 b o z).elim (fun ⟨x,_⟩ => absurd x nb) fun x => by rw [x] at hb; cases hb)
  refine ⟨pn6.new hb,by decide,by decide,fun g7 H7 a7 c7 e7 pn7 l3 hl3 => ⟨pn7.new hl3,by decide,by decide,fun g8 H8 a8 c8 e8 pn8 => ?_⟩⟩
  obtain ⟨tn,htn,hat3⟩ := C6 (ns := [0,0,1,g7]) a8 (by simpa using c8)
  have htn' : tn = 0 \/ tn = 0 \/ tn = 1 \/ tn = g7 := by simpa using htn
  have e68 : Ev p (upd H6 b (.lst [])) H8 := e7.trans ((Ev.new hl3).trans e8)
  refine ⟨l3,_,g8,.int tn,rfl,rfl,Am.of (e8.lst Ai (pn7.ne hl3)),hat3,tn,rfl,by omega,by omega,Ey (n := tn.toNat) (fun i σ H9 => ∃ t f l,σ = [some (.ref p),some (.ref PA),some (.int m),some (.int (1 + g1)),some (.int T),some (.int wd),some (.ref t1),some (.ref b),t,f,l] /\ Ev p H6 (upd H9 b (.lst [])) /\ Filled (GoodF P.bs.length (1 + g1).toNat) p b H H9 i)
   ⟨_,_,_,rfl,?_,(e6.trans (Ev.new hb)).trans e68,pn8,[],[],e68.lst Ai nb,.nil,(fun _ h => nomatch h),rfl⟩ (fun i σ H9 hi hP => ?_) fun σ H9 hP => ?_⟩
  ·exact ((Ev.new hb).trans e68).own hb
  ·obtain ⟨t,f,l,rfl,ev6,ev,pn4',xs,ds,hx,rs,gd,hl⟩ := hP
   refine ⟨pn4',by omega,by omega,fun f1 K5 a5 c5 e5' pn5' => ⟨pn5',by omega,by omega,fun f2 K6 a6 c6 e6' pn6' => ?_⟩⟩
   have e46 : Ev p H9 K6 := e5'.trans e6'
   obtain ⟨PA',PB',PE',PM',xb',xe',ePA,pA',pB',rb',pE',re',pM'⟩ := Aa.plant (Aa.ev (ev.trans e46) _ _ r)
   cases ePA
   have lb' := rb'.len
   rw [List.length_map] at lb'
   refine ⟨.inl ⟨rfl,_,Am.of (e46.lst hx nb)⟩,PA,_,0,.ref PB',rfl,rfl,Af.of pA',rfl,PB',xb',rfl,.inr (Af.of pB'),pn6',by omega,by omega,fun f3 K7 a7' c7' e7' pn7' l2' hl2' => ⟨pn7'.new hl2',by decide,by decide,fun g4 K8 a8' c8' e8' pn8' => ?_⟩⟩
   have hw : ∃ bb : Bool,Ce [V.str "out",.str "scaled"] g4 = some (wV bb) := by
    have : g4 = 0 \/ g4 = 1 := by omega
    rcases this with rfl | rfl
    ·exact ⟨true,rfl⟩
    ·exact ⟨false,rfl⟩
   obtain ⟨bb,hw⟩ := hw
   refine ⟨l2',_,g4,wV bb,rfl,rfl,Am.of (e8'.lst Ai (pn7'.ne hl2')),hw,fun t1' ht1' => ?_⟩
   have e48 : Ev p H9 K8 := e46.trans (e7'.trans ((Ev.new hl2').trans e8'))
   have hb8 := e48.lst hx nb
   refine ⟨b,xs,.ref t1',rfl,rfl,by rw [Ap (Bd hb8 ht1')]; exact hb8,Dk (by rw [<- rs.len,hl]; omega),_,_,_,rfl,?_,?_⟩
   ·intro c o hc
    by_cases z : c = b
    ·subst z; rw [hb] at hc; cases hc
    ·rcases ev6 c o hc with w' | w'
     ·exact .inl w'
     ·rw [Ap z] at w'
      rcases (e48.trans (Ev.new (o := .tup [.int f3,wV bb,.int f1,.int (f1 + f2)]) ht1')) c o w' with w'' | w''
      ·exact .inl w''
      ·right
       rw [Ap z,Ap z]
       exact w''
   ·exact Filled.step (fun d h => h.nm) hx rs gd hl e48 nb hbH (ev.trans e48) pn8' ht1' (Aa.tup Ai (.cons Aa.int (.cons Aa.str (.cons Aa.int (.cons Aa.int .nil))))) ⟨⟨f3,bb,f1,f1 + f2⟩,rfl,⟨a7',by show f3 < _; omega,a5,by show f1 <= f1 + f2; omega,by show f1 + f2 < _; omega⟩⟩
  ·obtain ⟨t,f,l,rfl,ev6,fb⟩ := hP
   have kt9 : H9 t1 = some (.tup (ns.map V.int)) := by
    have z := ev6.tup kt
    rw [Ap (Bd kt hb)] at z
    exact z
   obtain ⟨xs,fs,hb5,rb5,gf,lf⟩ := fb.done nb Ev.refl
   refine ⟨b,xs,rfl,.inl ⟨Am.of hb5,fun t2 ht2 t3 ht3 => ?_⟩⟩
   obtain ⟨lF,rfl,gl⟩ := KG gf
   rw [List.length_map] at lf
   have s5 := (Ab.new (o := .tup xs) ht2).trans (Ab.new (o := .tup [.ref t1,.ref t2]) ht3)
   refine q _ _ ⟨ns,lF⟩ ⟨by show 1 <= ns.length; omega,by show ns.length <= 8; omega,hu,by show lF.length <= 4; omega,fun x hx => ?_⟩ ?_ (fb.ev.trans (Ev.same s5)) (fb.pen.same s5)
   ·show x.ok _ ns.length
    rw [hn]; exact gl x hx
   ·exact Aa.tup Ai (.cons (Aa.row (s5 _ _ kt9)) (.cons (Aa.tup ((Ab.new ht3) _ _ Ai) (Ad.ev (Ev.same s5) _ _ rb5)) .nil))
 ·exact h.elim
theorem sc__law_caps : Ax ["_law_plant_here","_law_story_here","_law_rows","_law_hour","_law_row","_law_boiler","_law_make","_law_coal","_law_words"] ["_law_plant_here","_law_story_here"] (Aq s__law_caps) := AF
theorem Qy (F : Df K mg "_law_caps" s__law_caps ["_law_plant_here","_law_story_here"]) (T : Tx mg)  : Fn P w K mg base 1 "_law_caps" ["_law_plant_here","_law_story_here"] EU := by
 refine F.fn sc__law_caps (fun vs H Q E h => ?_) (fun f cdv A outer s H vs Q E hr h => ?_)
 ·unfold EU at h; split at h; rfl; exact h.elim
 refine ⟨_,(Aj (AB (i := 2) sc__law_caps.nd rfl (Ay (by rfl)) (Bi BJ) (by rfl) (Az (by rfl))) (Aj (BI PassesOwn.never rfl (C8 rfl T.b_range (Ak (AC (BM K (by rfl)) rfl T.b_len PySem.boot_len (Ak (AD (AT K (by rfl)) (cx 1 (by rfl)) Ae (fun _ _ => rfl)) (by rfl)) (by decide) (by decide) (by rfl) (by rfl)) (by rfl)) (by rfl)) (Ag 3 sc__law_caps.nd (by rfl)) (Aj (AB (i := 4) sc__law_caps.nd rfl (Ay (by rfl)) (Bi BJ) (by rfl) (Az (by rfl))) (Aj (BI PassesOwn.never rfl (Fv P w K rfl T.b_enumerate (Ak (AD (AT K (by rfl)) (cx 0 (by rfl)) Ae (fun _ _ => rfl)) (by rfl)) (by rfl) (by rfl) (by rfl) (by rfl)) (AI K (n := 2) (Ah (Ag 5 sc__law_caps.nd (by rfl)) (Ah (AI K (n := 2) (Ah (Ag 6 sc__law_caps.nd (by rfl)) (Ah (Ag 7 sc__law_caps.nd (by rfl)) AH (by rfl)) (by rfl)) (by rfl) (by rfl) (by rfl) (by rfl)) AH (by rfl)) (by rfl)) (by rfl) (by rfl) (by rfl) (by rfl)) (Aj (Jv (i := 8) ["_law_one","_law_word","_law_first","_law_last","_law_boiler","_law_hour"] [none,none,none,none,some 5,some 3] sc__law_caps.nd rfl (Ay (by rfl)) rfl (Cj K (AD (AT K (by rfl)) (cx 1 (by rfl)) Ae (fun _ _ => rfl)) (by rfl)) (AM.of rfl) (fun _ _ _ _ => (AI K (n := 4) (Ah (Ag 0 (AS (by rfl)) (by rfl)) (Ah (Ag 1 (AS (by rfl)) (by rfl)) (Ah (Ag 2 (AS (by rfl)) (by rfl)) (Ah (Ag 3 (AS (by rfl)) (by rfl)) AH (by rfl)) (by rfl)) (by rfl)) (by rfl)) (by rfl) (by rfl) (by rfl) (by rfl))) (fun _ _ _ _ => (Fg (PW.pt (Hv (A7 CT (cx 0 (by rfl)) (cx 4 (by rfl)) (A6 _)) (Hv (A7 Dc (cx 2 (by rfl)) (cx 5 (by rfl)) (A6 _)) (Iy (A7 Dc (cx 5 (by rfl)) (cx 3 (by rfl)) (A6 _)))))))) (fun _ _ _ _ => (cx 1 (by rfl))) (by rfl) (Az (by rfl)) (by intro _; rfl)) (Ao (Br (B5 PySem.F.plainAttrs_list PySem.F.slot_list_append PySem.F.type_list_append Cf (cx 4 (by rfl)) (Ak (DC (A7 (EG K (by rfl)) AK (cx 8 (by rfl)) (by with_unfolding_all rfl)) Ae (As Ft (cx 6 (by rfl)) (As A2 Ae (BL GS rfl T.b_int L2.boot_int (Ak (DR (EG K (by rfl)) AK (cx 8 (by rfl)) (by with_unfolding_all rfl)) (by rfl)) (by decide) (by decide) (by rfl) (by rfl))))) (by rfl)) (by rfl) (by rfl) (by rfl) (by rfl) (by rfl)) (by rfl)))) (by intro _; rfl)) (Ao (Br (B5 PySem.F.plainAttrs_list PySem.F.slot_list_append PySem.F.type_list_append Cf (cx 2 (by rfl)) (Ak (BL (CB K (by rfl)) rfl T.b_tuple Ci (Ak (cx 4 (by rfl)) (by rfl)) (by decide) (by decide) (by rfl) (by rfl)) (by rfl)) (by rfl) (by rfl) (by rfl) (by rfl) (by rfl)) (by rfl))))) (by intro _; rfl)) (Ao (Au (BL (CB K (by rfl)) rfl T.b_tuple Ci (Ak (cx 2 (by rfl)) (by rfl)) (by decide) (by decide) (by rfl) (by rfl)))))),?_⟩
 unfold EU at h
 split at h
 ·rename_i v u
  obtain ⟨p,P,S,ok,so,r,ru,q⟩ := h
  obtain ⟨A,B,E,xf,rfl,hA,hB,hE,rf⟩ := Aa.story ru
  obtain ⟨PA,PB,PE,PM,xb,xe,rfl,pA,pB,rb,pE,re,pM⟩ := Aa.plant r
  have x8 := so.x8
  have f4 := so.f4
  have b4 := ok.b4
  have lb := rb.len
  rw [List.length_map] at lb
  have lf := rf.len
  rw [List.length_map] at lf
  intro R hR
  have s0 : Ab H (upd H R (.lst [])) := Ab.new hR
  refine ⟨A,_,0,.ref B,rfl,rfl,Af.of (s0 _ _ hA),rfl,B,_,rfl,.inr (Af.of (s0 _ _ hB)),_,rfl,by omega,by rw [List.length_map]; omega,Ey (n := (S.ex.map V.int).length) (fun i σ H1 => (∃ x3 x4 x5 x6 x7 x8,σ = [some (.ref PA),some (.ref A),some (.ref R),x3,x4,x5,x6,x7,x8]) /\ Ab H H1 /\ ∃ xs,H1 R = some (.lst xs) /\ Ad p H1 (((caps P S).take i).map A3) xs)
   ⟨⟨_,_,_,_,_,_,rfl⟩,s0,[],Ai,.nil⟩ (fun i σ H1 hi hP => ?_) fun σ H1 hP => ?_⟩
  ·obtain ⟨⟨x3,x4,x5,x6,x7,x8',rfl⟩,s1,xs,hxs,rxs⟩ := hP
   rw [List.length_map] at hi
   have lx := rxs.len
   rw [List.length_map,List.length_take] at lx
   intro b hb
   have sb : Ab H1 (upd H1 b (.lst [])) := Ab.new hb
   refine ⟨PA,_,0,.ref PB,rfl,rfl,Af.of (sb _ _ (s1 _ _ pA)),rfl,PB,rfl,⟨xb,Af.of (sb _ _ (s1 _ _ pB))⟩,for_enum (xs := xb) (fun j σ H2 => (∃ y5 y6 y7 y8,σ = [some (.ref PA),some (.ref A),some (.ref R),some (.int (0 + i)),some (.ref b),y5,y6,y7,y8]) /\ Ab H1 H2 /\ H2 b = some (.lst (((BN P.bs S.fs i).take j).map V.int)))
    ⟨⟨_,_,_,_,rfl⟩,sb,Ai⟩ (fun j σ H2 h => Af.of (h.2.1 _ _ (s1 _ _ pB))) (fun j x σ H2 T hx h hT => ?_) fun σ H2 h => ?_⟩
   ·obtain ⟨⟨y5,y6,y7,y8,rfl⟩,s2,hb2⟩ := h
    obtain ⟨f,hf,rd⟩ := Ad.mapGot rb hx
    have hj : j < xb.length := (List.getElem?_eq_some_iff.mp hx).1
    have s3 : Ab H1 (upd H2 T (.tup [.int j,x])) := s2.trans (Ab.new hT)
    have s03 : Ab H (upd H2 T (.tup [.int j,x])) := s1.trans s3
    obtain ⟨l,zs,rfl,hl',rz⟩ := Aa.shape (Aa.ev (Ev.same s03) _ _ rd)
    obtain ⟨z1,z2,rfl,r1,r2⟩ := Ad.two rz
    unfold Aa at r1 r2
    subst r1 r2
    refine ⟨T,_,rfl,Af.of Ai,rfl,_,_,rfl,_,_,rfl,l,_,rfl,Af.of hl',rfl,_,_,rfl,_,_,rfl,rfl,rfl,?_⟩
    refine ⟨A,_,1,.ref E,rfl,rfl,Af.of (s03 _ _ hA),rfl,E,rfl,⟨xf,Af.of (s03 _ _ hE)⟩,CA (xs := xf) (fun k ys H3 => Ab (upd H2 T (.tup [.int j,.ref l])) H3 /\ ys = (Bn (S.fs.take k) j i).map wV) (by omega) ⟨Ab.refl _,rfl⟩ (fun k ys H' h => ?_) (fun k ys H' _ h => Af.of (h.1 _ _ (s03 _ _ hE))) (fun k x ys H' hx h => ?_) fun ys H3 h => ?_⟩
    ·rw [h.2,List.length_map]
     unfold Bn
     rw [List.length_map]
     exact Nat.le_trans (List.length_filter_le _ _) (by rw [List.length_take]; omega)
    ·obtain ⟨g,hg,rg⟩ := Ad.mapGot rf hx
     obtain ⟨l2,zs2,rfl,hl2,rz2⟩ := Aa.shape (Aa.ev (Ev.same (s03.trans h.1)) _ _ rg)
     obtain ⟨w1,w2,w3,w4,rfl,r1,r2,r3,r4⟩ := Ad.four rz2
     unfold Aa at r1 r2 r3 r4
     subst r1 r2 r3 r4
     have nx := JS (b := j) (h := i) hg
     have no : BR j i g = false -> Ab (upd H2 T (.tup [.int j,.ref l])) H' /\ ys = (Bn (S.fs.take (k + 1)) j i).map wV := fun e => ⟨h.1,by rw [nx,e,if_neg (by decide)]; exact h.2⟩
     refine ⟨l2,_,rfl,Af.of hl2,rfl,_,_,rfl,_,_,rfl,_,_,rfl,_,_,rfl,rfl,⟨rfl,rfl,trivial⟩,rfl,⟨fun c1 => ⟨fun c2 => ⟨fun c3 => ?_,fun c3 => no ?_⟩,fun c2 => ⟨fun z => (by cases z),fun _ => no ?_⟩⟩,fun c1 => ⟨fun z => (by cases z),fun _ => no ?_⟩⟩⟩
     ·have e : BR j i g = true := by
       rw [CM] at c1
       rw [Int.zero_add] at c2 c3
       unfold BR; rw [c1,c2,c3]; rfl
      refine ⟨h.1,?_⟩
      rw [nx,if_pos e,List.map_append,h.2]; rfl
     ·rw [Int.zero_add] at c3
      unfold BR; rw [c3,Bool.and_false]
     ·rw [Int.zero_add] at c2
      unfold BR; rw [c2,Bool.and_false,Bool.false_and]
     ·rw [CM] at c1
      unfold BR; rw [c1,Bool.false_and,Bool.false_and]
    ·intro m hm
     have ew : ys = (Bn S.fs j i).map wV := by rw [h.2,List.take_of_length_le (by omega)]
     subst ew
     have s4 : Ab H2 (upd H3 m (.lst ((Bn S.fs j i).map wV))) := (Ab.new hT).trans (h.1.trans (Ab.new hm))
     have hb4 := s4 _ _ hb2
     have hlen : (((BN P.bs S.fs i).take j).map V.int).length < sizeLine := Dk (by rw [List.length_map,List.length_take]; omega)
     refine ⟨.inl ⟨rfl,_,Am.of hb4⟩,m,_,rfl,.inl (Am.of Ai),rfl,Fz,⟨fun c => ?_,fun c => ?_⟩⟩
     ·rw [if_neg (by decide),Fy] at c
      refine ⟨b,_,.int 0,rfl,rfl,hb4,hlen,⟨_,_,_,_,rfl⟩,Ab.own (s2.trans s4) hb,?_⟩
      have e : BE (Bn S.fs j i) f.1 = 0 := by unfold BE; rw [if_pos c]
      rw [Ai,Bm (HJ hf),List.map_append,e]; rfl
     ·rw [if_neg (by decide),Fy] at c
      refine ⟨m,_,rfl,.inl (Am.of Ai),rfl,Fz,.inr ⟨_,rfl,?_⟩⟩
      have ek : (if (false = true) then !BP (V.str "scaled") ((Bn S.fs j i).map wV) else BP (V.str "scaled") ((Bn S.fs j i).map wV)) = (Bn S.fs j i).any (!·) := by rw [if_neg (by decide)]; exact HM
      have e := NC (m := f.1) c
      refine ⟨Qw _,b,_,.int (BE (Bn S.fs j i) f.1),rfl,congrArg (fun z => [V.int z]) ((congrArg (fun (k : Bool) => f.1 / (1 + if k = true then 1 else 0)) ek).trans e),hb4,hlen,⟨_,_,_,_,rfl⟩,Ab.own (s2.trans s4) hb,?_⟩
      rw [Ai,Bm (HJ hf),List.map_append]; rfl
   ·obtain ⟨⟨y5,y6,y7,y8,rfl⟩,s2,hb2⟩ := h
    rw [List.take_of_length_le (by rw [HK]; omega)] at hb2
    refine ⟨.inl ⟨rfl,_,Am.of (s2 _ _ hxs)⟩,b,_,rfl,.inl ⟨Am.of hb2,fun t ht => ?_⟩⟩
    have s3 : Ab H1 (upd H2 t (.tup ((BN P.bs S.fs i).map V.int))) := s2.trans (Ab.new ht)
    have hR3 := s3 _ _ hxs
    refine ⟨R,xs,.ref t,rfl,rfl,hR3,Dk (by omega),⟨_,_,_,_,_,_,rfl⟩,Ab.own (s1.trans s3) hR,_,Ai,?_⟩
    have tv := TEv.upd (zs := xs ++ [.ref t]) hR3
    rw [Bm (Fx hi),List.map_append]
    refine Ad.snoc (Ad.tev ((Ev.same (p := p) s3).tev.trans tv) _ _ (Ge fun d hd => ?_) rxs) (Aa.tev tv _ _ (KD _) (Aa.row (p := p) Ai))
    obtain ⟨rr,_,rfl⟩ := List.mem_map.mp hd
    exact KD rr
  ·obtain ⟨⟨x3,x4,x5,x6,x7,x8',rfl⟩,s1,xs,hxs,rxs⟩ := hP
   refine ⟨R,xs,rfl,.inl ⟨Am.of hxs,fun t ht => q _ _ (s1.trans (Ab.new ht)) (Aa.tup Ai ?_)⟩⟩
   rw [List.take_of_length_le (by rw [DE,List.length_map]; exact Nat.le_refl _)] at rxs
   exact Ad.ev (Ev.new ht) _ _ rxs
 ·exact h.elim
end
end MF
end
section
namespace MF
open PySem PySem.Spec PyProof.Rows L2
variable {p : Addr} {H : Hp} {v : V}
theorem Aa.terms {T : TM} (r : Aa p H T.d v) : ∃ A C B D M xc,v = .ref A /\ H A = some (.tup [.ref C,.ref B,.ref D,.ref M]) /\ H C = some (.tup xc) /\ Ad p H (T.cs.map A3) xc /\ H B = some (.tup (T.co.map V.int)) /\ H D = some (.tup (T.ds.map V.int)) /\ H M = some (.tup [.int T.lo,.int T.hi,.int T.st]) := by
 unfold TM.d at r
 obtain ⟨A,xs,rfl,hA,rs⟩ := Aa.shape r
 obtain ⟨x,y,z,w,rfl,rx,ry,rz,rw⟩ := Ad.four rs
 obtain ⟨C,xc,rfl,hC,rc⟩ := Aa.shape rx
 obtain ⟨B,xb,rfl,hB,rb⟩ := Aa.shape ry
 obtain ⟨D,xd,rfl,hD,rd⟩ := Aa.shape rz
 obtain ⟨M,xm,rfl,hM,rm⟩ := Aa.shape rw
 obtain ⟨m1,m2,m3,rfl,r1,r2,r3⟩ := Ad.three rm
 unfold Aa at r1 r2 r3
 subst r1 r2 r3
 rw [Ad.ints rb] at hB
 rw [Ad.ints rd] at hD
 exact ⟨A,C,B,D,M,xc,rfl,hA,hC,rc,hB,hD,hM⟩
theorem Aa.ofRow' {r : List Int} (h : Aa p H (A3 r) v) : ∃ A,v = .ref A /\ H A = some (.tup (r.map V.int)) := by
 obtain ⟨A,xs,rfl,hA,rs⟩ := Aa.shape h
 rw [Ad.ints rs] at hA
 exact ⟨A,rfl,hA⟩
theorem Gn {d : PyData} {lo hi : Int} (h : AQ d lo hi = true) : ∃ ds,d = .tuple ds /\ lo <= (ds.length : Int) /\ (ds.length : Int) <= hi := by
 cases d with
 | tuple ds =>
  unfold AQ at h
  obtain ⟨h1,h2⟩ := Bool.and_eq_true_iff.mp h
  exact ⟨ds,rfl,of_decide_eq_true h1,of_decide_eq_true h2⟩
 | _ => cases h
def Qz (n : Int) (d : PyData) : Bool := AQ d n n && (match d with | .tuple es => es.all OT | _ => false)
theorem Go {ns : List Int} {i : Nat} (h : i < ns.length) : Ce (ns.map V.int) (i : Int) = some (.int (ns.getD i 0)) := by
 refine Dv ?_
 rw [List.getElem?_map,List.getElem?_eq_getElem h,List.getD_eq_getElem?_getD,List.getElem?_eq_getElem h]; rfl
def sp_terms_of : Sp := fun vs H Q _ => match vs with | [v,u] => ∃ p P S,PL.ok P /\ SY.ok S P.bs.length /\ Aa p H P.d v /\ Aa p H S.d u /\ ret H Q p (terms P S).d | _ => False
def sp_is_counts : Sp := fun vs H Q _ => match vs with | [x,.int m] => ∃ p d,Aa p H d x /\ m <= 1000 /\ ∀ b H',b = Qz m d -> Ab H H' -> Q (.bl b) H' | _ => False
def Gp : Sp := fun vs H Q _ => match vs with | [v,.int h,.int x,.int b] => ∃ p T n,h = ((n : Nat) : Int) /\ n < T.ds.length /\ BG T /\ Aa p H T.d v /\ ∀ H',Ab H H' -> Q (.int (BF T n x b)) H' | _ => False
section
variable {P : Program} {w : World} {K : PySem.W.Frag} {mg : Str -> Option Value} {base : Heap}
theorem sc_terms_of : Ax ["plant","story","caps","coals"] ["plant","story"] (Aq s_terms_of) := AF
theorem sc_floor_at : Ax ["terms","hour","price","behind","caps","coals","draws","low","high","start","spared","kept"] ["terms","hour","price","behind"] (Aq s_floor_at) := AF
theorem QC (F : Df K mg "floor_at" s_floor_at ["terms","hour","price","behind"]) (T : Tx mg)  : Fn P w K mg base 1 "floor_at" ["terms","hour","price","behind"] Gp := by
 refine F.fn sc_floor_at (fun vs H Q E h => ?_) (fun f cdv A outer s H vs Q E hr h => ?_)
 ·unfold Gp at h; split at h; rfl; exact h.elim
 refine ⟨_,(Aj (Bb (cx 0 (by rfl)) (AI K (n := 4) (Ah (Ag 4 sc_floor_at.nd (by rfl)) (Ah (Ag 5 sc_floor_at.nd (by rfl)) (Ah (Ag 6 sc_floor_at.nd (by rfl)) (Ah (AI K (n := 3) (Ah (Ag 7 sc_floor_at.nd (by rfl)) (Ah (Ag 8 sc_floor_at.nd (by rfl)) (Ah (Ag 9 sc_floor_at.nd (by rfl)) AH (by rfl)) (by rfl)) (by rfl)) (by rfl) (by rfl) (by rfl) (by rfl)) AH (by rfl)) (by rfl)) (by rfl)) (by rfl)) (by rfl) (by rfl) (by rfl) (by rfl)) (by rfl) (by rfl) (by rfl)) (Aj (AB (i := 10) sc_floor_at.nd rfl (Ay (by rfl)) (AC (Fw rfl) rfl T.b_sum boot_sum (Ak (BD ["cap","coal","price"] [none,none,some 2] rfl (JP P w K rfl T.b_zip (Al (AD (AT K (by rfl)) (cx 4 (by rfl)) (cx 1 (by rfl)) (fun _ _ => rfl)) (cx 5 (by rfl)) (by rfl)) (by rfl) (by rfl) (by rfl) (by rfl) (by rfl)) (AM.of rfl) (fun _ _ _ _ => (AI K (n := 2) (Ah (Ag 0 (AS (by rfl)) (by rfl)) (Ah (Ag 1 (AS (by rfl)) (by rfl)) AH (by rfl)) (by rfl)) (by rfl) (by rfl) (by rfl) (by rfl))) (fun _ _ _ _ => (Fg (A7 EF (cx 1 (by rfl)) (cx 2 (by rfl)) (A6 _)))) (fun _ _ _ _ => (As Db (cx 0 (by rfl)) (As Bk (cx 1 (by rfl)) (cx 2 (by rfl))))) (by intro _; rfl)) (by rfl)) (by decide) (by decide) (by rfl) (by rfl)) (by rfl) (Az (by rfl))) (Aj (AB (i := 11) sc_floor_at.nd rfl (Ay (by rfl)) (As Db (As Bk (cx 2 (by rfl)) (cx 3 (by rfl))) (DC (A7 M4 (cx 2 (by rfl)) (cx 3 (by rfl)) (A6 _)) (cx 7 (by rfl)) (cx 8 (by rfl)))) (by rfl) (Az (by rfl))) (Ao (Au (As A2 (As A2 (As Db (cx 2 (by rfl)) (AD (AT K (by rfl)) (cx 6 (by rfl)) (cx 1 (by rfl)) (fun _ _ => rfl))) (cx 10 (by rfl))) (cx 11 (by rfl)))))))),?_⟩
 unfold Gp at h
 split at h
 ·rename_i v hh x b
  obtain ⟨p,T,n,rfl,hn,ok,r,q⟩ := h
  obtain ⟨A,C,B,D,M,xc,rfl,hA,hC,rc,hB,hD,hM⟩ := Aa.terms r
  have l8 := ok.ok.l8
  have lc := ok.ok.lc
  have o4 := ok.o
  have hrow : T.cs[n]? = some (T.cs.getD n []) := by rw [List.getD_eq_getElem?_getD,List.getElem?_eq_getElem (by omega)]; rfl
  obtain ⟨lr,cr⟩ := ok.c _ (List.mem_of_getElem? hrow)
  obtain ⟨y,hy,ry⟩ := rc.get (i := n) (d := A3 (T.cs.getD n [])) (by rw [List.getElem?_map,hrow]; rfl)
  obtain ⟨Cn,rfl,hCn⟩ := Aa.ofRow' ry
  have q' : ∀ H',Ab H H' -> Q (.int (x * T.ds.getD n 0 + spared (T.cs.getD n []) T.co x + Ec T.lo T.hi x b)) H' := q
  generalize T.cs.getD n [] = row at hrow lr cr hCn q'
  refine ⟨A,_,rfl,Af.of hA,rfl,_,_,rfl,_,_,rfl,_,_,rfl,_,_,rfl,M,_,rfl,Af.of hM,rfl,_,_,rfl,_,_,rfl,_,_,rfl,rfl,rfl,?_⟩
  refine ⟨C,xc,(n : Int),.ref Cn,rfl,rfl,Af.of hC,Dv hy,Cn,B,rfl,⟨_,Af.of hCn⟩,⟨_,Af.of hB⟩,walk_zip (xs := row.map V.int) (ys := T.co.map V.int) (fun i zs H' => Ab H H' /\ ∃ ns : List Int,zs = ns.map V.int /\ ns.length <= i /\ ns.sum = (((row.zip T.co).take i).map (Eb x)).sum) (by rw [List.length_map]; omega) (by rw [List.length_map,List.length_map]; exact lr) ⟨Ab.refl _,[],rfl,Nat.le_refl _,rfl⟩
    (fun i zs H' h => by obtain ⟨_,ns,rfl,hl,_⟩ := h; rw [List.length_map]; exact hl) (fun i zs H' h => ⟨Af.of (h.1 _ _ hCn),Af.of (h.1 _ _ hB)⟩) (fun i xx yy zs H' T' hx hy h hT => ?_) fun zs H' h => ?_⟩
  ·rw [List.getElem?_map] at hx hy
   obtain ⟨m,hm,rfl⟩ := Option.map_eq_some_iff.mp hx
   obtain ⟨k,hk,rfl⟩ := Option.map_eq_some_iff.mp hy
   obtain ⟨s0,ns,rfl,hl,hs⟩ := h
   have s2 := s0.trans (Ab.new (o := .tup [.int m,.int k]) hT)
   have hz : (row.zip T.co)[i]? = some (m,k) := by rw [List.getElem?_zip_eq_some]; exact ⟨hm,hk⟩
   have bm := cr m (List.mem_of_getElem? hm)
   refine ⟨T',_,rfl,Af.of Ai,rfl,_,_,rfl,_,_,rfl,rfl,⟨rfl,trivial⟩,fun c => ?_,fun c => ?_⟩
   ·refine ⟨.inl ⟨by omega,by omega⟩,s2,ns ++ [m * (k - x)],by rw [List.map_append]; rfl,by rw [List.length_append]; simp; exact hl,?_⟩
    rw [Bm hz,List.map_append,List.sum_append,List.sum_append,hs]
    have e : Eb x (m,k) = m * (k - x) := by unfold Eb; exact if_pos (of_decide_eq_true c)
    simp [e]
   ·refine ⟨s2,ns,rfl,by omega,?_⟩
    rw [Bm hz,List.map_append,List.sum_append,hs]
    have e : Eb x (m,k) = 0 := by unfold Eb; exact if_neg (of_decide_eq_false c)
    simp [e]
  ·obtain ⟨s0,ns,rfl,hl,hs⟩ := h
   intro m hm
   have s2 := s0.trans (Ab.new (o := .lst (ns.map V.int)) hm)
   have es : ns.sum = spared row T.co x := by rw [hs,List.take_of_length_le (by rw [List.length_zip,List.length_map]; omega)]; rfl
   refine ⟨m,ns,rfl,Ai,?_⟩
   rw [es]
   have h0 := ok.l0
   have h1 := ok.l4
   have h2 := ok.h0
   have h3 := ok.h4
   have bd := ok.d _ (getD_mem (d := 0) hn)
   refine ⟨fun c => ⟨.inr ⟨by omega,by omega⟩,D,_,(n : Int),.int (T.ds.getD n 0),rfl,rfl,Af.of (s2 _ _ hD),Go hn,.inr ⟨by omega,by omega⟩,?_⟩,fun c => ⟨.inr ⟨by omega,by omega⟩,D,_,(n : Int),.int (T.ds.getD n 0),rfl,rfl,Af.of (s2 _ _ hD),Go hn,.inr ⟨by omega,by omega⟩,?_⟩⟩
   ·have e : Ec T.lo T.hi x b = (x - b) * T.lo := by unfold Ec; rw [if_pos (of_decide_eq_true c)]
    rw [e] at q'
    exact q' _ s2
   ·have e : Ec T.lo T.hi x b = (x - b) * T.hi := by unfold Ec; rw [if_neg (of_decide_eq_false c)]
    rw [e] at q'
    exact q' _ s2
 ·exact h.elim
end
end MF
end
section
namespace MF
open PySem PySem.Spec PyProof.Rows L2
variable {p : Addr} {H : Hp} {ps : List Int} {v : V}
theorem Aa.tailShape {f : Int} (r : Aa p H (B8 f ps) v) : ∃ a b,v = .ref a /\ H a = some (.tup [.int f,.ref b]) /\ H b = some (.tup (ps.map V.int)) := by
 obtain ⟨a,xs,rfl,ha,rs⟩ := Aa.shape r
 obtain ⟨x,y,rfl,rx,ry⟩ := Ad.two rs
 unfold Aa at rx
 subst rx
 obtain ⟨b,ys,rfl,hb,rb⟩ := Aa.shape ry
 rw [Ad.ints rb] at hb
 exact ⟨a,b,rfl,ha,hb⟩
theorem KH {f f' : Int} {ps' : List Int} (r : Aa p H (B8 f ps) v) (r' : Aa p H (B8 f' ps') v) : f = f' := by
 obtain ⟨a,b,rfl,ha,hb⟩ := Aa.tailShape r
 obtain ⟨a',b',e,ha',hb'⟩ := Aa.tailShape r'
 cases e
 rw [ha] at ha'
 injection ha' with e
 injection e with e
 injection e with e1 _
 injection e1
def Gq : Sp := fun vs H Q _ => match vs with | [v,.int h,.ref d] => ∃ p T n o kvs,BG T /\ h = ((n : Nat) : Int) /\ n < T.ds.length /\ Aa p H T.d v /\ H d = some (.frz o (.dK kvs)) /\ kvs.length <= 5 /\ TailsAt p H T (n + 1) kvs /\ ∀ d' H' o' kvs',Ab H H' -> H' d' = some (.frz o' (.dK kvs')) -> kvs'.length <= 5 -> TailsAt p H' T n kvs' -> Q (.ref d') H' | _ => False
def Gr : Sp := fun vs H Q _ => match vs with | [v] => ∃ p T,BG T /\ Aa p H T.d v /\ ∀ u H' f ps,Ab H H' -> Aa p H' (B8 f ps) u -> HX T f ps -> Q u H' | _ => False
section
variable {P : Program} {w : World} {K : PySem.W.Frag} {mg : Str -> Option Value} {base : Heap}
theorem sc_tails_from : Ax ["terms","hour","tails","caps","coals","draws","main"] ["terms","hour","tails"] (Aq s_tails_from) := AF
theorem QD (F : Df K mg "tails_from" s_tails_from ["terms","hour","tails"]) (T : Tx mg) (D_floor_at : Fn P w K mg base 1 "floor_at" ["terms","hour","price","behind"] Gp) : Fn P w K mg base 2 "tails_from" ["terms","hour","tails"] Gq := by
 refine F.fn sc_tails_from (fun vs H Q E h => ?_) (fun f cdv A outer s H vs Q E hr h => ?_)
 ·unfold Gq at h; split at h; rfl; exact h.elim
 refine ⟨_,(@Aj _ _ _ _ _ (@Bb _ _ _ _ _ _ (@cx _ 0 _ _ (by rfl)) (@AI _ K _ _ _ (4) _ (@Ah _ _ _ _ _ (@Ag _ _ _ 3 sc_tails_from.nd (by rfl)) (@Ah _ _ _ _ _ (@Ag _ _ _ 4 sc_tails_from.nd (by rfl)) (@Ah _ _ _ _ _ (@Ag _ _ _ 5 sc_tails_from.nd (by rfl)) (@Ah _ _ _ _ _ (@Ag _ _ _ 6 sc_tails_from.nd (by rfl)) (@AH _) (by rfl)) (by rfl)) (by rfl)) (by rfl)) (by rfl) (by rfl) (by rfl) (by rfl)) (by rfl) (by rfl) (by rfl)) (@Ao _ _ _ (@Au _ _ _ _ (Pe ["price","terms","hour","tails"] [none,some 0,some 1,some 2] rfl (@Cj _ K _ _ _ (@As _ _ _ _ _ _ _ _ (@DD _) (@AV _ _ _ _ _ (@Ak _ _ _ (@Ae _ _ _ _) (by rfl))) (@cx _ 4 _ _ (by rfl))) (by rfl)) (AM.of rfl) (fun _ _ _ _ => (@Ag _ _ _ 0 (AS (by rfl)) (by rfl))) (fun _ _ _ _ => (@Bw _)) (fun _ _ _ _ => (@cx _ 0 _ _ (by rfl))) (fun _ _ _ _ => (@AC _ _ _ _ _ _ _ _ _ (Kq rfl hr) rfl T.b_max boot_max (@Ak _ _ _ (@BD _ _ _ _ _ _ _ _ _ _ _ ["behind","floor","prices","terms","hour","price"] [none,none,none,some 1,some 2,some 0] rfl (Ki (@cx _ 3 _ _ (by rfl))) (AM.of rfl) (fun _ _ _ _ => (@AI _ K _ _ _ (2) _ (@Ah _ _ _ _ _ (@Ag _ _ _ 0 (AS (by rfl)) (by rfl)) (@Ah _ _ _ _ _ (@AI _ K _ _ _ (2) _ (@Ah _ _ _ _ _ (@Ag _ _ _ 1 (AS (by rfl)) (by rfl)) (@Ah _ _ _ _ _ (@Ag _ _ _ 2 (AS (by rfl)) (by rfl)) (@AH _) (by rfl)) (by rfl)) (by rfl) (by rfl) (by rfl) (by rfl)) (@AH _) (by rfl)) (by rfl)) (by rfl) (by rfl) (by rfl) (by rfl))) (fun _ _ _ _ => (@Bw _)) (fun _ _ _ _ => (@AV _ _ _ _ _ (@Al _ _ _ _ _ (@As _ _ _ _ _ _ _ _ (@A2 _) (@An _ _ _ _ _ _ _ _ _ _ D_floor_at (hr.mono (by decide)) rfl (@A4 _ _ _ _ _ _ _ _ _ (@cx _ 3 _ _ (by rfl)) (@cx _ 4 _ _ (by rfl)) (@cx _ 5 _ _ (by rfl)) (@cx _ 0 _ _ (by rfl)) (by rfl)) (by decide) (by rfl) (by rfl)) (@cx _ 1 _ _ (by rfl))) (@As _ _ _ _ _ _ _ _ (@DD _) (@AV _ _ _ _ _ (@Ak _ _ _ (@cx _ 5 _ _ (by rfl)) (by rfl))) (@cx _ 2 _ _ (by rfl))) (by rfl)))) (by intro _; rfl)) (by rfl)) (by decide) (by decide) (by rfl) (by rfl))))))),?_⟩
 unfold Gq at h
 split at h
 ·rename_i v hh d
  obtain ⟨p,T,n,o,kvs,fl,rfl,hn,r,hd,l5,ta,q⟩ := h
  obtain ⟨A,C,B,D,M,xc,rfl,hA,hC,rc,hB,hD,hM⟩ := Aa.terms r
  have o4 := fl.o
  have l8 := fl.ok.l8
  refine ⟨A,_,rfl,Af.of hA,rfl,_,_,rfl,_,_,rfl,_,_,rfl,_,_,rfl,rfl,?_⟩
  refine fun t1 H1 s1 k1 => ⟨t1,B,_,_,rfl,rfl,k1,s1 _ _ hB,by rw [List.length_map]; show 1 + _ <= 1000; omega,fun t2 H2 s2 k2 => ?_⟩
  have ek : [V.int 0] ++ T.co.map V.int = (0 :: T.co).map V.int := rfl
  rw [ek] at k2
  have s02 := s1.trans s2
  have lc : (0 :: T.co).length <= 5 := by rw [List.length_cons]; omega
  have ne : kvs ≠ [] := fun z => by
   obtain ⟨q,hq,_⟩ := ta.all 0 (by unfold DI; split <;> first | rfl | exact List.mem_cons_self)
   rw [z] at hq; cases hq
  refine ⟨t2,rfl,⟨_,Af.of k2⟩,Po (xs := (0 :: T.co).map V.int) (fun i ks H' => Ab H2 H' /\ ks.length <= i /\ (∀ q ∈ ks,∃ x f ps,q.1 = .inl x /\ Aa p H' (B8 f ps) q.2 /\ OneTail T n x f ps) /\ ∀ x ∈ (0 :: T.co).take i,∃ q ∈ ks,q.1 = .inl x) (by rw [List.length_map]; omega) ⟨Ab.refl _,Nat.zero_le _,(fun _ h => nomatch h),fun x h => (by rw [List.take_zero] at h; cases h)⟩ (fun i ks H' h => h.2.1) (fun i ks H' _ h => Af.of (h.1 _ _ k2)) (fun i x ks H' hx h => ?_) fun ks H' h => ?_⟩
  ·rw [List.getElem?_map] at hx
   obtain ⟨pr,hpr,rfl⟩ := Option.map_eq_some_iff.mp hx
   have mpr := List.mem_of_getElem? hpr
   obtain ⟨s2',lk,one,all⟩ := h
   have s0 := s02.trans s2'
   have r0 := Aa.ev (Ev.same (p := p) s0) _ _ r
   refine ⟨⟨rfl,rfl,rfl,trivial⟩,fun _ => ?_,fun z => by cases z⟩
   refine ⟨d,o,kvs,rfl,s0 _ _ hd,Kj (fun j zs H'' => Ab H' H'' /\ ∃ fs : List (Int × List PyData),Ad p H'' (fs.map fun q => .tuple (.int q.1 :: q.2)) zs /\ fs.length = j /\ ∀ k q0,k < j -> kvs[k]? = some q0 -> ∃ fq,fs[k]? = some fq /\ FS p H T (n + 1) (fun b f => BF T n pr b + f) (fun ps => pr :: ps) q0 fq) (by omega) ⟨Ab.refl _,[],.nil,rfl,(fun k _ h => absurd h (Nat.not_lt_zero k))⟩ (fun j zs H'' h => by obtain ⟨_,fs,rs,lf,_⟩ := h; rw [<- rs.len,List.length_map,lf]; exact Nat.le_refl _) (fun j zs H'' h => h.1 _ _ (s0 _ _ hd)) (fun j q0 zs H'' T' hq h hT => ?_) fun zs H'' h => ?_⟩
   ·obtain ⟨s3,fs,rs,lf,hfs⟩ := h
    obtain ⟨b,f,ps,eb,rq,ot⟩ := ta.one q0 (List.mem_of_getElem? hq)
    obtain ⟨kk,y⟩ := q0
    have eb' : kk = .inl b := eb
    subst eb'
    have lps := ot.len
    have sT := Ab.new (o := .tup [.int b,y]) hT
    have s4 := s3.trans sT
    have s04 := s0.trans s4
    obtain ⟨l,bb,ey,hl,hbb⟩ := Aa.tailShape (Aa.ev (Ev.same s04) _ _ rq)
    replace ey : y = .ref l := ey
    subst ey
    refine ⟨T',_,rfl,Af.of Ai,rfl,_,_,rfl,_,_,rfl,l,_,rfl,Af.of hl,rfl,_,_,rfl,_,_,rfl,rfl,rfl,⟨rfl,rfl,rfl,trivial⟩,fun _ => ?_,fun z => by cases z⟩
    have r4 := Aa.ev (Ev.same (p := p) s04) _ _ r
    refine ⟨p,T,n,rfl,hn,fl,r4,fun H5 s5 => fun t6 H6 s6 k6 => ⟨t6,bb,_,_,rfl,rfl,k6,(s5.trans s6) _ _ hbb,by rw [List.length_map]; show 1 + _ <= 1000; omega,fun t7 H7 s7 k7 => fun t8 H8 s8 k8 => ?_⟩⟩
    have ek7 : [V.int pr] ++ ps.map V.int = (pr :: ps).map V.int := rfl
    rw [ek7] at k7
    have s58 := s5.trans (s6.trans (s7.trans s8))
    refine ⟨s4.trans s58,fs ++ [(BF T n pr b + f,[A3 (pr :: ps)])],?_,by rw [List.length_append,lf]; rfl,fun k q1 hk hq1 => ?_⟩
    ·rw [List.map_append]
     have s38 : Ab H'' H8 := sT.trans s58
     exact Ad.snoc (Ad.ev (Ev.same s38) _ _ rs) (Aa.tup k8 (.cons Aa.int (.cons (Aa.row (s8 _ _ k7)) .nil)))
    ·by_cases z : k < j
     ·obtain ⟨fq,h1,h2⟩ := hfs k q1 z hq1
      exact ⟨fq,by rw [List.getElem?_append_left (by omega)]; exact h1,h2⟩
     ·obtain rfl : k = j := by omega
      rw [hq] at hq1
      cases hq1
      exact ⟨_,by rw [List.getElem?_append_right (by omega),lf,Nat.sub_self]; rfl,b,f,ps,rfl,rq,ot,rfl⟩
   ·obtain ⟨s3,fs,rs,lf,hfs⟩ := h
    intro L hL
    have nL := Ab.new (o := .lst zs) hL
    have rsL := Ad.ev (Ev.same (p := p) nL) _ _ rs
    have row : ∀ fq ∈ fs,∃ q0 ∈ kvs,FS p H T (n + 1) (fun b f => BF T n pr b + f) (fun ps => pr :: ps) q0 fq := fun fq hfq => by
     obtain ⟨k,hk⟩ := List.getElem?_of_mem hfq
     have hk' := (List.getElem?_eq_some_iff.mp hk).1
     obtain ⟨fq',h1,h2⟩ := hfs k kvs[k] (by omega) (List.getElem?_eq_getElem (by omega))
     rw [hk] at h1; cases h1
     exact ⟨_,List.getElem_mem _,h2⟩
    refine ⟨p,L,fs,zs,rfl,Ai,rsL,fun z => ne (List.eq_nil_of_length_eq_zero (by rw [z] at lf; exact lf.symm)),fun q1 h1 q2 h2 => ?_,fun i' fq v hfq hv top => ?_⟩
    ·obtain ⟨_,_,b1,f1,ps1,_,_,_,e1⟩ := row q1 h1
     obtain ⟨_,_,b2,f2,ps2,_,_,_,e2⟩ := row q2 h2
     rw [e1,e2]
     exact .cons (.row _ _) .nil
    ·obtain ⟨q0,m0,b,f,ps,eb,rq,ot,rfl⟩ := row fq (List.mem_of_getElem? hfq)
     obtain ⟨v',hv',rv⟩ := rsL.get (i := i') (d := B8 (BF T n pr b + f) (pr :: ps)) (by rw [List.getElem?_map,hfq]; rfl)
     rw [hv] at hv'; cases hv'
     have ot' : OneTail T n pr (BF T n pr b + f) (pr :: ps) := OneTail.step ta hn mpr ot fun b' f' ps' o1 ⟨q1,m1,e1,r1⟩ => by
      obtain ⟨k,hk⟩ := List.getElem?_of_mem m1
      have hk' := (List.getElem?_eq_some_iff.mp hk).1
      obtain ⟨fq',g1,b2,f2,ps2,e2,r2,o2,rfl⟩ := hfs k q1 hk' hk
      have eb2 : b2 = b' := by rw [e1] at e2; injection e2 with e2; exact e2.symm
      subst eb2
      have ef := KH r1 r2
      subst ef
      exact top _ (List.mem_of_getElem? g1)
     have s2L := s2'.trans (s3.trans nL)
     refine ⟨.inl pr,rfl,s2L,Nat.le_trans (Kk _ _ _) (by omega),fun q1 h1 => ?_,fun x hx => ?_⟩
     ·rcases Pu h1 with h1 | rfl
      ·obtain ⟨x,f1,ps1,e1,r1,o1⟩ := one q1 h1
       exact ⟨x,f1,ps1,e1,Aa.ev (Ev.same (s3.trans nL)) _ _ r1,o1⟩
      ·exact ⟨pr,_,_,rfl,rv,ot'⟩
     ·rw [Bm hpr] at hx
      rcases List.mem_append.mp hx with hx | hx
      ·obtain ⟨q1,h1,e1⟩ := all x hx
       obtain ⟨q2,h2,e2⟩ := Px (k := .inl pr) (v := v) h1
       exact ⟨q2,h2,e2.trans e1⟩
      ·rw [List.mem_singleton.mp hx]
       exact Pw
  ·obtain ⟨s2',lk,one,all⟩ := h
   intro d' o' hd'
   rw [List.length_map] at lk all
   have nd := Ab.new (o := .frz o' (.dK ks)) hd'
   refine q d' _ o' ks (s02.trans (s2'.trans nd)) Ai (by omega) ⟨fun q1 h1 => ?_,fun x hx => ?_⟩
   ·obtain ⟨x,f1,ps1,e1,r1,o1⟩ := one q1 h1
    exact ⟨x,f1,ps1,e1,Aa.ev (Ev.same nd) _ _ r1,o1⟩
   ·unfold DI at hx
    rw [if_neg (by omega)] at hx
    exact all x (by rw [List.take_length]; exact hx)
 ·exact h.elim
theorem sc_highest_floor : Ax ["terms","caps","coals","draws","low","high","start","tails","hour"] ["terms"] (Aq s_highest_floor) := AF
theorem QF (F : Df K mg "highest_floor" s_highest_floor ["terms"]) (T : Tx mg) (D_tails_from : Fn P w K mg base 2 "tails_from" ["terms","hour","tails"] Gq) : Fn P w K mg base 3 "highest_floor" ["terms"] Gr := by
 refine F.fn sc_highest_floor (fun vs H Q E h => ?_) (fun f cdv A outer s H vs Q E hr h => ?_)
 ·unfold Gr at h; split at h; rfl; exact h.elim
 refine ⟨_,(@Aj _ _ _ _ _ (@Bb _ _ _ _ _ _ (@cx _ 0 _ _ (by rfl)) (@AI _ K _ _ _ (4) _ (@Ah _ _ _ _ _ (@Ag _ _ _ 1 sc_highest_floor.nd (by rfl)) (@Ah _ _ _ _ _ (@Ag _ _ _ 2 sc_highest_floor.nd (by rfl)) (@Ah _ _ _ _ _ (@Ag _ _ _ 3 sc_highest_floor.nd (by rfl)) (@Ah _ _ _ _ _ (@AI _ K _ _ _ (3) _ (@Ah _ _ _ _ _ (@Ag _ _ _ 4 sc_highest_floor.nd (by rfl)) (@Ah _ _ _ _ _ (@Ag _ _ _ 5 sc_highest_floor.nd (by rfl)) (@Ah _ _ _ _ _ (@Ag _ _ _ 6 sc_highest_floor.nd (by rfl)) (@AH _) (by rfl)) (by rfl)) (by rfl)) (by rfl) (by rfl) (by rfl) (by rfl)) (@AH _) (by rfl)) (by rfl)) (by rfl)) (by rfl)) (by rfl) (by rfl) (by rfl) (by rfl)) (by rfl) (by rfl) (by rfl)) (@Aj _ _ _ _ _ (@AB _ _ (7) _ _ _ _ sc_highest_floor.nd rfl (Ay (by rfl)) (Pm (@AV _ _ _ _ _ (@Al _ _ _ _ _ (@Ae _ _ _ _) (@AV _ _ _ _ _ (@BJ _)) (by rfl)))) (by rfl) (Az (by rfl))) (@Aj _ _ _ _ _ (@BI _ _ _ _ _ _ _ _ PassesOwn.never rfl (Pk rfl T.b_reversed rfl T.b_range (@Ak _ _ _ (@AC _ _ _ _ _ _ _ _ _ (@BM _ K (by rfl)) rfl T.b_len PySem.boot_len (@Ak _ _ _ (@cx _ 3 _ _ (by rfl)) (by rfl)) (by decide) (by decide) (by rfl) (by rfl)) (by rfl))) (@Ag _ _ _ 8 sc_highest_floor.nd (by rfl)) (@Ao _ _ _ (@AB _ _ (7) _ _ _ _ sc_highest_floor.nd rfl (Ay (by rfl)) (@An _ _ _ _ _ _ _ _ _ _ D_tails_from (hr.mono (by decide)) rfl (@AA _ _ _ _ _ _ _ (@cx _ 0 _ _ (by rfl)) (@cx _ 8 _ _ (by rfl)) (@cx _ 7 _ _ (by rfl)) (by rfl)) (by decide) (by rfl) (by rfl)) (by rfl) (Az (by rfl)))) (by intro _; rfl)) (@Ao _ _ _ (@Au _ _ _ _ (@AC _ _ _ _ _ _ _ _ _ (Kq rfl hr) rfl T.b_max boot_max (@Ak _ _ _ (@BD _ _ _ _ _ _ _ _ _ _ _ ["price","floor","prices","start"] [none,none,none,some 6] rfl (Ki (@cx _ 7 _ _ (by rfl))) (AM.of rfl) (fun _ _ _ _ => (@AI _ K _ _ _ (2) _ (@Ah _ _ _ _ _ (@Ag _ _ _ 0 (AS (by rfl)) (by rfl)) (@Ah _ _ _ _ _ (@AI _ K _ _ _ (2) _ (@Ah _ _ _ _ _ (@Ag _ _ _ 1 (AS (by rfl)) (by rfl)) (@Ah _ _ _ _ _ (@Ag _ _ _ 2 (AS (by rfl)) (by rfl)) (@AH _) (by rfl)) (by rfl)) (by rfl) (by rfl) (by rfl) (by rfl)) (@AH _) (by rfl)) (by rfl)) (by rfl) (by rfl) (by rfl) (by rfl))) (fun _ _ _ _ => (@Bw _)) (fun _ _ _ _ => (@AV _ _ _ _ _ (@Al _ _ _ _ _ (@As _ _ _ _ _ _ _ _ (@Bk _) (@cx _ 1 _ _ (by rfl)) (@As _ _ _ _ _ _ _ _ (@Db _) (@cx _ 0 _ _ (by rfl)) (@cx _ 3 _ _ (by rfl)))) (@cx _ 2 _ _ (by rfl)) (by rfl)))) (by intro _; rfl)) (by rfl)) (by decide) (by decide) (by rfl) (by rfl))))))),?_⟩
 unfold Gr at h
 split at h
 ·rename_i v
  obtain ⟨p,T,fl,r,q⟩ := h
  obtain ⟨A,C,B,D,M,xc,rfl,hA,hC,rc,hB,hD,hM⟩ := Aa.terms r
  have l8 := fl.ok.l8
  refine ⟨A,_,rfl,Af.of hA,rfl,_,_,rfl,_,_,rfl,_,_,rfl,_,_,rfl,M,_,rfl,Af.of hM,rfl,_,_,rfl,_,_,rfl,_,_,rfl,rfl,rfl,?_⟩
  refine fun t1 H1 s1 k1 => fun t2 H2 s2 k2 => fun d0 o0 hd0 => ?_
  have n0 := Ab.new (o := .frz o0 (.dK [(.inl 0,.ref t2)])) hd0
  have r2 : Aa p H2 (B8 0 []) (.ref t2) := Aa.tup k2 (.cons Aa.int (.cons (Aa.tup (s2 _ _ k1) .nil) .nil))
  have ta0 := (Py (T := T) r2).same n0
  have s3 := s1.trans (s2.trans n0)
  have kd0 : upd H2 d0 (.frz o0 (.dK [(.inl 0,.ref t2)])) d0 = some (.frz o0 (.dK [(.inl 0,.ref t2)])) := Ai
  generalize upd H2 d0 (.frz o0 (.dK [(.inl 0,.ref t2)])) = H3 at s3 ta0 kd0 ⊢
  refine ⟨D,_,rfl,.inr (Af.of (s3 _ _ hD)),_,rfl,by omega,by rw [List.length_map]; omega,Nw (fun i σ H' => ∃ x8 d o kvs,σ = [some (.ref A),some (.ref C),some (.ref B),some (.ref D),some (.int T.lo),some (.int T.hi),some (.int T.st),some (.ref d),x8] /\ i <= T.ds.length /\ Ab H H' /\ H' d = some (.frz o (.dK kvs)) /\ kvs.length <= 5 /\ TailsAt p H' T (T.ds.length - i) kvs) ⟨_,d0,o0,_,rfl,Nat.zero_le _,s3,kd0,by show 1 <= 5; decide,ta0⟩ (fun i σ H' hi h => ?_) fun σ H' h => ?_⟩
  ·obtain ⟨x8,d,o,kvs,rfl,hi',s',kd,l5,ta⟩ := h
   have hi2 : i < T.ds.length := by rw [List.length_map] at hi; omega
   refine ⟨p,T,T.ds.length - (i + 1),o,kvs,fl,by rw [List.length_map]; omega,by omega,Aa.ev (Ev.same s') _ _ r,kd,l5,by rw [show T.ds.length - (i + 1) + 1 = T.ds.length - i by omega]; exact ta,fun d' H4 o' kvs' s4 kd' l5' ta' => ⟨_,d',o',kvs',rfl,by omega,s'.trans s4,kd',l5',ta'⟩⟩
  ·obtain ⟨x8,d,o,kvs,rfl,hi',s',kd,l5,ta⟩ := h
   have e0 : T.ds.length - ((T.ds.map V.int).length : Int).toNat = 0 := by rw [List.length_map]; omega
   rw [e0] at ta
   have ne : kvs ≠ [] := fun z => by
    obtain ⟨q,hq,_⟩ := ta.all 0 (by unfold DI; split <;> first | rfl | exact List.mem_cons_self)
    rw [z] at hq; cases hq
   have h0 := fl.s0
   have h4 := fl.s4
   refine ⟨d,o,kvs,rfl,kd,Kj (fun j zs H'' => Ab H' H'' /\ ∃ fs : List (Int × List PyData),Ad p H'' (fs.map fun q => .tuple (.int q.1 :: q.2)) zs /\ fs.length = j /\ ∀ k q0,k < j -> kvs[k]? = some q0 -> ∃ fq,fs[k]? = some fq /\ FS p H' T 0 (fun b f => f - b * T.st) (fun ps => ps) q0 fq) (by omega) ⟨Ab.refl _,[],.nil,rfl,(fun k _ h => absurd h (Nat.not_lt_zero k))⟩ (fun j zs H'' h => by obtain ⟨_,fs,rs,lf,_⟩ := h; rw [<- rs.len,List.length_map,lf]; exact Nat.le_refl _) (fun j zs H'' h => h.1 _ _ kd) (fun j q0 zs H'' T' hq h hT => ?_) fun zs H'' h => ?_⟩
   ·obtain ⟨s3,fs,rs,lf,hfs⟩ := h
    obtain ⟨b,f,ps,eb,rq,ot⟩ := ta.one q0 (List.mem_of_getElem? hq)
    obtain ⟨kk,y⟩ := q0
    have eb' : kk = .inl b := eb
    subst eb'
    obtain ⟨l,bb,ey,hl0,hbb0⟩ := Aa.tailShape (Aa.ev (Ev.same s3) _ _ rq)
    replace ey : y = .ref l := ey
    subst ey
    have sT := Ab.new (o := .tup [.int b,.ref l]) hT
    have s4 := s3.trans sT
    have hl := sT _ _ hl0
    have hbb := sT _ _ hbb0
    refine ⟨T',_,rfl,Af.of Ai,rfl,_,_,rfl,_,_,rfl,l,_,rfl,Af.of hl,rfl,_,_,rfl,_,_,rfl,rfl,rfl,⟨rfl,trivial⟩,fun _ => ?_,fun z => by cases z⟩
    refine ⟨.inr ⟨Int.lt_of_lt_of_le (by decide) h0,Int.lt_of_le_of_lt h4 (by decide)⟩,fun t8 H8 s8 k8 => ?_⟩
    refine ⟨s4.trans s8,fs ++ [(f - b * T.st,[A3 ps])],?_,by rw [List.length_append,lf]; rfl,fun k q1 hk hq1 => ?_⟩
    ·rw [List.map_append]
     exact Ad.snoc (Ad.ev (Ev.same (sT.trans s8)) _ _ rs) (Aa.tup k8 (.cons Aa.int (.cons (Aa.row (s8 _ _ hbb)) .nil)))
    ·by_cases z : k < j
     ·obtain ⟨fq,h1,h2⟩ := hfs k q1 z hq1
      exact ⟨fq,by rw [List.getElem?_append_left (by omega)]; exact h1,h2⟩
     ·obtain rfl : k = j := by omega
      rw [hq] at hq1
      cases hq1
      exact ⟨_,by rw [List.getElem?_append_right (by omega),lf,Nat.sub_self]; rfl,b,f,ps,rfl,rq,ot,rfl⟩
   ·obtain ⟨s3,fs,rs,lf,hfs⟩ := h
    intro L hL
    have nL := Ab.new (o := .lst zs) hL
    have rsL := Ad.ev (Ev.same (p := p) nL) _ _ rs
    have row : ∀ fq ∈ fs,∃ q0 ∈ kvs,FS p H' T 0 (fun b f => f - b * T.st) (fun ps => ps) q0 fq := fun fq hfq => by
     obtain ⟨k,hk⟩ := List.getElem?_of_mem hfq
     have hk' := (List.getElem?_eq_some_iff.mp hk).1
     obtain ⟨fq',h1,h2⟩ := hfs k kvs[k] (by omega) (List.getElem?_eq_getElem (by omega))
     rw [hk] at h1; cases h1
     exact ⟨_,List.getElem_mem _,h2⟩
    refine ⟨p,L,fs,zs,rfl,Ai,rsL,fun z => ne (List.eq_nil_of_length_eq_zero (by rw [z] at lf; exact lf.symm)),fun q1 h1 q2 h2 => ?_,fun i' fq v hfq hv top => ?_⟩
    ·obtain ⟨_,_,b1,f1,ps1,_,_,_,e1⟩ := row q1 h1
     obtain ⟨_,_,b2,f2,ps2,_,_,_,e2⟩ := row q2 h2
     rw [e1,e2]
     exact .cons (.row _ _) .nil
    ·obtain ⟨q0,m0,b,f,ps,eb,rq,ot,rfl⟩ := row fq (List.mem_of_getElem? hfq)
     obtain ⟨v',hv',rv⟩ := rsL.get (i := i') (d := B8 (f - b * T.st) ps) (by rw [List.getElem?_map,hfq]; rfl)
     rw [hv] at hv'; cases hv'
     refine q _ _ _ ps (s'.trans (s3.trans nL)) rv (PC ta ot fun x' f' ps' o1 ⟨q1,m1,e1,r1⟩ => ?_)
     obtain ⟨k,hk⟩ := List.getElem?_of_mem m1
     have hk' := (List.getElem?_eq_some_iff.mp hk).1
     obtain ⟨fq',g1,b2,f2,ps2,e2,r2,o2,rfl⟩ := hfs k q1 hk' hk
     have eb2 : b2 = x' := by rw [e1] at e2; injection e2 with e2; exact e2.symm
     subst eb2
     have ef := KH r1 r2
     subst ef
     exact top _ (List.mem_of_getElem? g1)
 ·exact h.elim
end
end MF
end
section
namespace MF
open PySem PySem.Spec PyProof.Rows L2
variable {p : Addr} {H : Hp}
theorem Aa.intE {a b : Int} (h : b = a) : Aa p H (.int a) (.int b) := by subst h; exact Aa.int
theorem Aa.pair {q : Nat × Nat} {v : V} (r : Aa p H (pD q) v) : ∃ A,v = .ref A /\ H A = some (.tup [.int q.1,.int q.2]) := by
 obtain ⟨A,xs,rfl,hA,rs⟩ := Aa.shape r
 obtain ⟨x,y,rfl,rx,ry⟩ := Ad.two rs
 unfold Aa at rx ry
 subst rx ry
 exact ⟨A,rfl,hA⟩
theorem QG {xs : List V} {i : Nat} (h : i <= xs.length) : Bh xs none (some (i : Int)) = xs.take i := by
 unfold Bh HT.sIx
 dsimp only
 rw [if_neg (by omega),List.drop_zero,Nat.sub_zero,Int.toNat_natCast,Nat.min_eq_left h]
def Gs : Sp := fun vs H Q _ => match vs with | [v,u] => ∃ p T f l,TM.ok T /\ Aa p H T.d v /\ Aa p H (pD (f,l)) u /\ f <= l /\ l < T.ds.length /\ ∀ H',Ab H H' -> Q (.bl (BW T f l)) H' | _ => False
def Gu : Sp := fun vs H Q _ => match vs with | [v] => ∃ p T,TM.ok T /\ Aa p H T.d v /\ ret H Q p (J3 (BA T)) | _ => False
def EV : Sp := fun vs H Q _ => match vs with | [.ref A,.int n,y] => ∃ xs,∃ k : Nat,n = (k : Int) /\ k < xs.length /\ xs.length <= 100 /\ H A = some (.tup xs) /\ ∀ B H',Ab H H' -> H' B = some (.tup (xs.set k y)) -> Q (.ref B) H' | _ => False
def Ih : Sp := fun vs H Q _ => match vs with | [v] => ∃ p T,BG T /\ Aa p H T.d v /\ (BA T ≠ none -> ∀ H',Ab H H' -> Q .non H') /\ (BA T = none -> ∀ f ps H',HX T f ps -> Ab H H' -> Q (.int f) H') | _ => False
def En : Sp := fun vs H Q _ => match vs with | [.ref A,.int n,.int u] => ∃ ns : List Int,∃ k : Nat,n = (k : Int) /\ k < ns.length /\ ns.length <= 100 /\ H A = some (.tup (ns.map V.int)) /\ ∀ B H',Ab H H' -> H' B = some (.tup ((ns.set k (ns.getD k 0 + u)).map V.int)) -> Q (.ref B) H' | _ => False
section
variable {P : Program} {w : World} {K : PySem.W.Frag} {mg : Str -> Option Value} {base : Heap}
theorem sc_is_too_much : Ax ["terms","stretch","caps","coals","draws","low","high","start","first","last","ahead","most"] ["terms","stretch"] (Aq s_is_too_much) := AF
theorem QH (F : Df K mg "is_too_much" s_is_too_much ["terms","stretch"]) (T : Tx mg)  : Fn P w K mg base 1 "is_too_much" ["terms","stretch"] Gs := by
 refine F.fn sc_is_too_much (fun vs H Q E h => ?_) (fun f cdv A outer s H vs Q E hr h => ?_)
 ·unfold Gs at h; split at h; rfl; exact h.elim
 refine ⟨_,(Aj (Bb (cx 0 (by rfl)) (AI K (n := 4) (Ah (Ag 2 sc_is_too_much.nd (by rfl)) (Ah (Ag 3 sc_is_too_much.nd (by rfl)) (Ah (Ag 4 sc_is_too_much.nd (by rfl)) (Ah (AI K (n := 3) (Ah (Ag 5 sc_is_too_much.nd (by rfl)) (Ah (Ag 6 sc_is_too_much.nd (by rfl)) (Ah (Ag 7 sc_is_too_much.nd (by rfl)) AH (by rfl)) (by rfl)) (by rfl)) (by rfl) (by rfl) (by rfl) (by rfl)) AH (by rfl)) (by rfl)) (by rfl)) (by rfl)) (by rfl) (by rfl) (by rfl) (by rfl)) (by rfl) (by rfl) (by rfl)) (Aj (Bb (cx 1 (by rfl)) (AI K (n := 2) (Ah (Ag 8 sc_is_too_much.nd (by rfl)) (Ah (Ag 9 sc_is_too_much.nd (by rfl)) AH (by rfl)) (by rfl)) (by rfl) (by rfl) (by rfl) (by rfl)) (by rfl) (by rfl) (by rfl)) (Aj (AB (i := 10) sc_is_too_much.nd rfl (Ay (by rfl)) (DC (A7 CT (cx 8 (by rfl)) Ae (A6 _)) (cx 7 (by rfl)) (cx 6 (by rfl))) (by rfl) (Az (by rfl))) (Aj (AB (i := 11) sc_is_too_much.nd rfl (Ay (by rfl)) (AC (FC rfl) rfl T.b_sum boot_sum (Ak (BD ["row"] [none] rfl (Cj K (Cy s_tup (cx 2 (by rfl)) (BU (cx 8 (by rfl))) (BU (As A2 (cx 9 (by rfl)) Ae))) (by rfl)) (AM.of rfl) (fun _ _ _ _ => (Ag 0 (AS (by rfl)) (by rfl))) (fun _ _ _ _ => Bw) (fun _ _ _ _ => (AC (FC rfl) rfl T.b_sum boot_sum (Ak (cx 0 (by rfl)) (by rfl)) (by decide) (by decide) (by rfl) (by rfl))) (by intro _; rfl)) (by rfl)) (by decide) (by decide) (by rfl) (by rfl)) (by rfl) (Az (by rfl))) (Ao (Au (DR EF (As A2 (cx 10 (by rfl)) (cx 11 (by rfl))) (As A2 (AC (FC rfl) rfl T.b_sum boot_sum (Ak (Cy s_tup (cx 4 (by rfl)) (BU (cx 8 (by rfl))) (BU (As A2 (cx 9 (by rfl)) Ae))) (by rfl)) (by decide) (by decide) (by rfl) (by rfl)) (cx 5 (by rfl))) (A6 _)))))))),?_⟩
 unfold Gs at h
 split at h
 ·rename_i v u
  obtain ⟨p,T,f,l,ok,r,ru,hfl,hl,q⟩ := h
  obtain ⟨A,C,B,D,M,xc,rfl,hA,hC,rc,hB,hD,hM⟩ := Aa.terms r
  obtain ⟨U,rfl,hU⟩ := Aa.pair ru
  have l8 := ok.l8
  have lc := ok.lc
  have lx := rc.len
  rw [List.length_map] at lx
  refine ⟨A,_,rfl,Af.of hA,rfl,_,_,rfl,_,_,rfl,_,_,rfl,_,_,rfl,M,_,rfl,Af.of hM,rfl,_,_,rfl,_,_,rfl,_,_,rfl,rfl,rfl,?_⟩
  refine ⟨U,_,rfl,Af.of hU,rfl,_,_,rfl,_,_,rfl,rfl,rfl,⟨fun c => ?_,fun c => ?_⟩⟩
  ·have ea : (if f = 0 then T.st else T.hi) = T.st := by
    rw [CM] at c
    have : (f : Int) = 0 := by simpa using c
    rw [if_pos (by omega)]
   refine ⟨(f : Int),rfl,(l : Int) + 1,rfl,C,xc,rfl,hC,fun R H1 s1 k1 => ?_⟩
   rw [FJ hfl (by omega)] at k1
   have rp := Ad.part (Ad.ev (Ev.same s1) _ _ rc) f l
   rw [D0] at rp
   have lp := JX (xs := T.cs) hfl (by omega)
   have lq := rp.len
   rw [List.length_map] at lq
   refine ⟨R,rfl,⟨_,Af.of k1⟩,CA (xs := part xc f l) (fun i ys H' => Ab H1 H' /\ ys = (((part T.cs f l).take i).map List.sum).map V.int) (by omega) ⟨Ab.refl _,rfl⟩ (fun i ys H' h => by rw [h.2,List.length_map,List.length_map,List.length_take]; omega) (fun i ys H' _ h => Af.of (h.1 _ _ k1)) (fun i x ys H' hx h => ?_) fun ys H2 h => ?_⟩
   ·obtain ⟨r',hr',rr⟩ := Ad.mapGot rp hx
    obtain ⟨ra,rfl,hra⟩ := Aa.ofRow' rr
    refine ⟨trivial,fun _ => ⟨ra,r',rfl,.inr (h.1 _ _ hra),h.1,?_⟩,fun z => by cases z⟩
    rw [Bm hr',List.map_append,List.map_append,h.2]; rfl
   ·intro m hm
    have s2 := s1.trans (h.1.trans (Ab.new (o := .lst ys) hm))
    refine ⟨m,(part T.cs f l).map List.sum,rfl,.inl ?_,?_⟩
    ·rw [Ai,h.2,List.take_of_length_le (by omega)]
    refine ⟨(f : Int),rfl,(l : Int) + 1,rfl,D,T.ds.map V.int,rfl,s2 _ _ hD,fun R2 H3 s3 k3 => ?_⟩
    rw [FJ hfl (by rw [List.length_map]; exact hl),D0] at k3
    refine ⟨R2,part T.ds f l,rfl,.inr k3,?_⟩
    have := q H3 (s2.trans s3)
    unfold BW at this
    rw [ea] at this
    exact this
  ·have ea : (if f = 0 then T.st else T.hi) = T.hi := by
    rw [CM] at c
    have : (f : Int) ≠ 0 := by simpa using c
    rw [if_neg (by omega)]
   refine ⟨(f : Int),rfl,(l : Int) + 1,rfl,C,xc,rfl,hC,fun R H1 s1 k1 => ?_⟩
   rw [FJ hfl (by omega)] at k1
   have rp := Ad.part (Ad.ev (Ev.same s1) _ _ rc) f l
   rw [D0] at rp
   have lp := JX (xs := T.cs) hfl (by omega)
   have lq := rp.len
   rw [List.length_map] at lq
   refine ⟨R,rfl,⟨_,Af.of k1⟩,CA (xs := part xc f l) (fun i ys H' => Ab H1 H' /\ ys = (((part T.cs f l).take i).map List.sum).map V.int) (by omega) ⟨Ab.refl _,rfl⟩ (fun i ys H' h => by rw [h.2,List.length_map,List.length_map,List.length_take]; omega) (fun i ys H' _ h => Af.of (h.1 _ _ k1)) (fun i x ys H' hx h => ?_) fun ys H2 h => ?_⟩
   ·obtain ⟨r',hr',rr⟩ := Ad.mapGot rp hx
    obtain ⟨ra,rfl,hra⟩ := Aa.ofRow' rr
    refine ⟨trivial,fun _ => ⟨ra,r',rfl,.inr (h.1 _ _ hra),h.1,?_⟩,fun z => by cases z⟩
    rw [Bm hr',List.map_append,List.map_append,h.2]; rfl
   ·intro m hm
    have s2 := s1.trans (h.1.trans (Ab.new (o := .lst ys) hm))
    refine ⟨m,(part T.cs f l).map List.sum,rfl,.inl ?_,?_⟩
    ·rw [Ai,h.2,List.take_of_length_le (by omega)]
    refine ⟨(f : Int),rfl,(l : Int) + 1,rfl,D,T.ds.map V.int,rfl,s2 _ _ hD,fun R2 H3 s3 k3 => ?_⟩
    rw [FJ hfl (by rw [List.length_map]; exact hl),D0] at k3
    refine ⟨R2,part T.ds f l,rfl,.inr k3,?_⟩
    have := q H3 (s2.trans s3)
    unfold BW at this
    rw [ea] at this
    exact this
 ·exact h.elim
theorem sc_least_stretch : Ax ["terms","caps","coals","draws","main","hours","stretches","found"] ["terms"] (Aq s_least_stretch) := AF
theorem QI (F : Df K mg "least_stretch" s_least_stretch ["terms"]) (T : Tx mg) (D_is_too_much : Fn P w K mg base 1 "is_too_much" ["terms","stretch"] Gs) : Fn P w K mg base 2 "least_stretch" ["terms"] Gu := by
 refine F.fn sc_least_stretch (fun vs H Q E h => ?_) (fun f cdv A outer s H vs Q E hr h => ?_)
 ·unfold Gu at h; split at h; rfl; exact h.elim
 refine ⟨_,(Aj (Bb (cx 0 (by rfl)) (AI K (n := 4) (Ah (Ag 1 sc_least_stretch.nd (by rfl)) (Ah (Ag 2 sc_least_stretch.nd (by rfl)) (Ah (Ag 3 sc_least_stretch.nd (by rfl)) (Ah (Ag 4 sc_least_stretch.nd (by rfl)) AH (by rfl)) (by rfl)) (by rfl)) (by rfl)) (by rfl) (by rfl) (by rfl) (by rfl)) (by rfl) (by rfl) (by rfl)) (Aj (AB (i := 5) sc_least_stretch.nd rfl (Ay (by rfl)) (AC (BM K (by rfl)) rfl T.b_len PySem.boot_len (Ak (cx 3 (by rfl)) (by rfl)) (by decide) (by decide) (by rfl) (by rfl)) (by rfl) (Az (by rfl))) (Aj (NV (i := 6) ["first","last","hours"] [none,none,some 5] sc_least_stretch.nd rfl (Ay (by rfl)) rfl (C8 rfl T.b_range (Ak (cx 5 (by rfl)) (by rfl)) (by rfl)) (AM.of rfl) (fun _ _ _ _ => (Ag 0 (AS (by rfl)) (by rfl))) (fun _ _ _ _ => Bw) (fun _ _ _ _ => (LJ rfl T.b_range (Al (cx 0 (by rfl)) (cx 2 (by rfl)) (by rfl)) (by rfl) (by rfl))) (fun _ _ _ _ => (Ag 1 (AS (by rfl)) (by rfl))) (fun _ _ _ _ => Bw) (fun _ _ _ _ => (A9 (Al (cx 0 (by rfl)) (cx 1 (by rfl)) (by rfl)))) (by rfl) (Az (by rfl)) (by intro _; rfl) (by intro _ _; rfl)) (Aj (Jv (i := 7) ["stretch","terms"] [none,some 0] sc_least_stretch.nd rfl (Ay (by rfl)) rfl (Dd K (cx 6 (by rfl)) (by rfl)) (AM.of rfl) (fun _ _ _ _ => (Ag 0 (AS (by rfl)) (by rfl))) (fun _ _ _ _ => (Fg (BV (An D_is_too_much (hr.mono (by decide)) rfl (Al (cx 1 (by rfl)) (cx 0 (by rfl)) (by rfl)) (by decide) (by rfl) (by rfl)) (by intro _; rfl)))) (fun _ _ _ _ => (cx 0 (by rfl))) (by rfl) (Az (by rfl)) (by intro _; rfl)) (Ao (Au (DC (NX (cx 7 (by rfl)) (by intro _; rfl)) (AD (Bz K (by rfl)) (cx 7 (by rfl)) Ae (fun _ _ => rfl)) BC))))))),?_⟩
 unfold Gu at h
 split at h
 ·rename_i v
  obtain ⟨p,T,ok,r,q⟩ := h
  obtain ⟨A,C,B,D,M,xc,rfl,hA,hC,rc,hB,hD,hM⟩ := Aa.terms r
  have l8 := ok.l8
  refine ⟨A,_,rfl,Af.of hA,rfl,_,_,rfl,_,_,rfl,_,_,rfl,_,_,rfl,rfl,?_⟩
  refine ⟨D,_,rfl,.inr (Af.of hD),?_⟩
  rw [List.length_map]
  refine ⟨_,rfl,by omega,by omega,NT (n := T.ds.length) (fun i zs H' => Ab H H' /\ Ad p H' ((BX T.ds.length i).map pD) zs) ⟨Ab.refl _,.nil⟩ (fun i zs H1 hi h => ?_) fun zs H1 h => ?_⟩
  ·refine ⟨⟨rfl,trivial⟩,fun _ => ?_,fun z => by cases z⟩
   have lz := h.2.len
   rw [List.length_map] at lz
   have ls := J0 (n := T.ds.length) (k := i)
   have lm : T.ds.length * i <= 8 * 8 := Nat.mul_le_mul l8 (by omega)
   have e0 : ((T.ds.length : Int) - (0 + (i : Int))).toNat = T.ds.length - i := by omega
   refine ⟨_,_,rfl,⟨by omega,by omega,by omega,by omega⟩,?_⟩
   rw [e0]
   refine NS (n := T.ds.length - i) (fun j ys H2 => Ab H H2 /\ Ad p H2 ((BX T.ds.length i ++ CD i j).map pD) ys /\ j <= 8) ⟨h.1,?_,Nat.zero_le _⟩ (fun j ys H2 h => ?_) (fun j ys H2 hj h2 => ?_) fun ys H2 h2 => ?_
   ·have e1 : CD i 0 = [] := rfl
    rw [e1,List.append_nil]; exact h.2
   ·have h3 := h.2.1.len
    rw [List.length_map,List.length_append,JY] at h3
    have := h.2.2
    omega
   ·refine ⟨⟨rfl,rfl,trivial⟩,fun _ t ht => ?_,fun z => by cases z⟩
    have nt := Ab.new (o := .tup [.int (0 + (i : Int)),.int (0 + (i : Int) + (j : Int))]) ht
    refine ⟨h2.1.trans nt,?_,by omega⟩
    rw [NY,<- List.append_assoc,List.map_append]
    exact Ad.snoc (Ad.ev (Ev.same nt) _ _ h2.2.1) (Aa.tup Ai (.cons (Aa.intE (by simp)) (.cons (Aa.intE (by simp)) .nil)))
   ·refine ⟨h2.1,?_⟩
    rw [JZ]
    exact h2.2.1
  ·intro m hm
   have s1 := h.1.trans (Ab.new (o := .lst zs) hm)
   have r1 := Ad.ev (Ev.new (p := p) (o := .lst zs) hm) _ _ h.2
   have lz := h.2.len
   rw [List.length_map] at lz
   have ls := J0 (n := T.ds.length) (k := T.ds.length)
   have lm : T.ds.length * T.ds.length <= 8 * 8 := Nat.mul_le_mul l8 l8
   refine ⟨m,rfl,⟨zs,Am.of Ai⟩,Jw (xs := zs) (fun i ys H' => Ab (upd H1 m (.lst zs)) H' /\ Ad p H' ((((BX T.ds.length T.ds.length).take i).filter fun q => BW T q.1 q.2).map pD) ys) (by omega) ⟨Ab.refl _,.nil⟩ (fun i ys H' h => ?_) (fun i ys H' _ h => Am.of (h.1 _ _ Ai)) (fun i x ys H' hx h => ?_) fun ys H2 h2 => ?_⟩
   ·rw [<- h.2.len,List.length_map]
    exact Nat.le_trans (List.length_filter_le _ _) (by rw [List.length_take]; omega)
   ·obtain ⟨⟨f,l⟩,hf,rd⟩ := Ad.mapGot r1 hx
    obtain ⟨hfl,hl⟩ := J2 (Nat.le_refl _) _ (List.mem_of_getElem? hf)
    refine ⟨⟨rfl,trivial⟩,p,T,f,l,ok,Aa.ev (Ev.same (s1.trans h.1)) _ _ r,Aa.ev (Ev.same h.1) _ _ rd,hfl,hl,fun H3 s3 => ⟨fun c => ?_,fun c => ?_⟩⟩
    ·refine ⟨h.1.trans s3,?_⟩
     rw [Bm hf,List.filter_append,List.filter_cons_of_pos (by exact c),List.map_append]
     exact Ad.snoc (Ad.ev (Ev.same s3) _ _ h.2) (Aa.ev (Ev.same (h.1.trans s3)) _ _ rd)
    ·refine ⟨h.1.trans s3,?_⟩
     rw [Bm hf,List.filter_append,List.filter_cons_of_neg (by rw [show BW T (f,l).1 (f,l).2 = false from c]; decide),List.filter_nil,List.append_nil]
     exact Ad.ev (Ev.same s3) _ _ h.2
   ·intro m2 hm2
    rw [List.take_of_length_le (by omega)] at h2
    have s2 := s1.trans (h2.1.trans (Ab.new (o := .lst ys) hm2))
    have r2 := Ad.ev (Ev.new (p := p) (o := .lst ys) hm2) _ _ h2.2
    refine ⟨m2,ys,rfl,Ai,⟨fun c => ?_,fun c => ?_⟩⟩
    ·cases ys with
     | nil => cases c
     | cons y ys =>
      refine ⟨m2,_,0,y,rfl,rfl,Am.of Ai,Dv (j := 0) rfl,q _ _ s2 ?_⟩
      have eq : D3 T = (BX T.ds.length T.ds.length).filter fun q => BW T q.1 q.2 := rfl
      unfold BA
      rw [<- eq] at r2
      cases z : D3 T with
      | nil => rw [z] at r2; have := r2.len; cases this
      | cons a l =>
       rw [z] at r2
       unfold Ad at r2
       obtain ⟨x,t,e,rx,_⟩ := r2
       cases e
       exact rx
    ·cases ys with
     | cons y ys => cases c
     | nil =>
      refine q _ _ s2 ?_
      have eq : D3 T = (BX T.ds.length T.ds.length).filter fun q => BW T q.1 q.2 := rfl
      unfold BA
      rw [<- eq] at r2
      cases z : D3 T with
      | nil => exact Aa.non
      | cons a l => rw [z] at r2; have := r2.len; cases this
 ·exact h.elim
theorem QJ : Ax ["row","at","part"] ["row","at","part"] (Aq s_replaced) := AF
theorem QK (F : Df K mg "replaced" s_replaced ["row","at","part"]) (T : Tx mg)  : Fn P w K mg base 1 "replaced" ["row","at","part"] EV := by
 refine F.fn QJ (fun vs H Q E h => ?_) (fun f cdv A outer s H vs Q E hr h => ?_)
 ·unfold EV at h; split at h; rfl; exact h.elim
 refine ⟨_,(Ao (Au (As DD (As DD (Cy s_tup (cx 0 (by rfl)) C9 (BU (cx 1 (by rfl)))) (A9 (Ak (cx 2 (by rfl)) (by rfl)))) (Cy s_tup (cx 0 (by rfl)) (BU (As A2 (cx 1 (by rfl)) Ae)) C9)))),?_⟩
 unfold EV at h
 split at h
 ·rename_i A n y
  obtain ⟨xs,k,rfl,hk,l100,hA,q⟩ := h
  refine ⟨(k : Int),rfl,A,xs,rfl,hA,fun u1 H1 s1 k1 t ht => ?_⟩
  have n1 := Ab.new (o := .tup [y]) ht
  rw [QG (by omega)] at k1
  refine ⟨u1,t,_,_,rfl,rfl,n1 _ _ k1,Ai,(by rw [List.length_take,List.length_singleton]; omega),fun u2 H2 s2 k2 => ?_⟩
  refine ⟨(k : Int) + 1,rfl,A,xs,rfl,(s1.trans (n1.trans s2)) _ _ hA,fun u3 H3 s3 k3 => ?_⟩
  refine ⟨u2,u3,_,_,rfl,rfl,s3 _ _ k2,k3,?_,fun u4 H4 s4 k4 => ?_⟩
  ·have := Fb xs (some ((k : Int) + 1)) none
   rw [List.length_append,List.length_take,List.length_singleton]
   omega
  ·refine q u4 H4 (s1.trans (n1.trans (s2.trans (s3.trans s4)))) ?_
   rw [k4]
   congr 2
   have e : Bh xs (some ((k : Int) + 1)) none = xs.drop (k + 1) := by
    unfold Bh
    rw [show ((k : Int) + 1) = ((k + 1 : Nat) : Int) by omega,HT.sIx_nat,Nat.min_eq_left (by omega)]
    show (xs.drop (k + 1)).take (xs.length - (k + 1)) = _
    rw [List.take_of_length_le (by rw [List.length_drop]; exact Nat.le_refl _)]
   rw [e,List.set_eq_take_append_cons_drop,if_pos hk,List.append_assoc]; rfl
 ·exact h.elim
theorem sc_coal_under : Ax ["terms","floor","prices"] ["terms"] (Aq s_coal_under) := AF
abbrev Dl (P : Program) (w : World) (K : PySem.W.Frag) (mg : Str -> Option Value) (base : Heap) : Prop := Fn P w K mg base 4 "coal_under" ["terms"] Ih
theorem QL (F : Df K mg "coal_under" s_coal_under ["terms"]) (T : Tx mg) (D_highest_floor : Fn P w K mg base 3 "highest_floor" ["terms"] Gr) (D_least_stretch : Fn P w K mg base 2 "least_stretch" ["terms"] Gu) : Dl P w K mg base := by
 refine F.fn sc_coal_under (fun vs H Q E h => ?_) (fun f cdv A outer s H vs Q E hr h => ?_)
 ·unfold Ih at h; split at h; rfl; exact h.elim
 refine ⟨_,(Aj (A8 (A7 LR (An D_least_stretch (hr.mono (by decide)) rfl (Ak (cx 0 (by rfl)) (by rfl)) (by decide) (by rfl) (by rfl)) BC (A6 _)) (Ao (Au BC)) A5) (Aj (Bb (An D_highest_floor (hr.mono (by decide)) rfl (Ak (cx 0 (by rfl)) (by rfl)) (by decide) (by rfl) (by rfl)) (AI K (n := 2) (Ah (Ag 1 sc_coal_under.nd (by rfl)) (Ah (Ag 2 sc_coal_under.nd (by rfl)) AH (by rfl)) (by rfl)) (by rfl) (by rfl) (by rfl) (by rfl)) (by rfl) (by rfl) (by rfl)) (Ao (Au (cx 1 (by rfl)))))),?_⟩
 unfold Ih at h
 split at h
 ·rename_i v
  obtain ⟨p,T,fl,r,q1,q2⟩ := h
  refine ⟨p,T,fl.ok,r,fun u H1 s1 ru => ?_⟩
  cases z : BA T with
  | none =>
   rw [z] at ru
   have eu : u = .non := by unfold J3 at ru; unfold Aa at ru; exact ru
   subst eu
   refine ⟨rfl,⟨fun c => by simp at c,fun _ => ?_⟩⟩
   refine ⟨p,T,fl,Aa.ev (Ev.same s1) _ _ r,fun y H2 f ps s2 ry hf => ?_⟩
   obtain ⟨a,b,rfl,ha,hb⟩ := Aa.tailShape ry
   exact ⟨a,_,rfl,Af.of ha,rfl,_,_,rfl,_,_,rfl,rfl,q2 z f ps H2 hf (s1.trans s2)⟩
  | some s0 =>
   rw [z] at ru
   have nu : u ≠ .non := by
    obtain ⟨A,eA,_⟩ := Aa.pair ru
    rw [eA]; intro e; cases e
   refine ⟨rfl,⟨fun _ => q1 (by rw [z]; simp) H1 s1,fun c => ?_⟩⟩
   simp [nu] at c
 ·exact h.elim
theorem QN : Ax ["row","at","units"] ["row","at","units"] (Aq s_added) := AF
theorem QO (F : Df K mg "added" s_added ["row","at","units"]) (T : Tx mg) (D_replaced : Fn P w K mg base 1 "replaced" ["row","at","part"] EV) : Fn P w K mg base 2 "added" ["row","at","units"] En := by
 refine F.fn QN (fun vs H Q E h => ?_) (fun f cdv A outer s H vs Q E hr h => ?_)
 ·unfold En at h; split at h; rfl; exact h.elim
 refine ⟨_,(Ao (Au (An D_replaced (hr.mono (by decide)) rfl (AA (cx 0 (by rfl)) (cx 1 (by rfl)) (As A2 (AD (AT K (by rfl)) (cx 0 (by rfl)) (cx 1 (by rfl)) (fun _ _ => rfl)) (cx 2 (by rfl))) (by rfl)) (by decide) (by rfl) (by rfl)))),?_⟩
 unfold En at h
 split at h
 ·rename_i A n u
  obtain ⟨ns,k,rfl,hk,l100,hA,q⟩ := h
  refine ⟨A,_,_,.int (ns.getD k 0),rfl,rfl,Af.of hA,Go hk,ns.map V.int,k,rfl,by rw [List.length_map]; exact hk,by rw [List.length_map]; exact l100,hA,fun B H' s' kB => q B H' s' ?_⟩
  rw [kB,List.map_set]
 ·exact h.elim
end
end MF
end
section
namespace MF
open PySem PySem.Spec PyProof.Rows L2
variable {H : Hp} {G F : List (List Int)} {p : Addr} {S : SY} {k i : Nat}
theorem QP {α : Type} (n : Nat) (x : α) : (List.replicate n [x]).flatten = List.replicate n x := by
 induction n with
 | zero => rfl
 | succ n ih => rw [List.replicate_succ,List.flatten_cons,ih,List.replicate_succ]; rfl
def Feed (H : Hp) (G : List (List Int)) (f : V) : Prop := ∃ A xs,f = .ref A /\ xs.length = G.length /\
 ((H A = some (.tup xs) /\ ∀ (i : Nat) r x,G[i]? = some r -> xs[i]? = some x -> ∃ a,x = .ref a /\ H a = some (.tup (r.map V.int))) \/ (H A = some (.lst xs) /\ ∀ (i : Nat) r x,G[i]? = some r -> xs[i]? = some x -> ∃ a,x = .ref a /\ H a = some (.lst (r.map V.int))))
theorem Feed.same {H' : Hp} {f : V} (x : Feed H G f) (s : Ab H H') : Feed H' G f := by
 obtain ⟨A,xs,e,hl,h⟩ := x
 refine ⟨A,xs,e,hl,h.elim (fun h => .inl ⟨s _ _ h.1,fun i r x hr hx => ?_⟩) fun h => .inr ⟨s _ _ h.1,fun i r x hr hx => ?_⟩⟩
 ·obtain ⟨a,e,k⟩ := h.2 i r x hr hx; exact ⟨a,e,s _ _ k⟩
 ·obtain ⟨a,e,k⟩ := h.2 i r x hr hx; exact ⟨a,e,s _ _ k⟩
theorem Aa.firing {v : V} (r : Aa p H (FD F) v) : ∃ A xs,v = .ref A /\ H A = some (.tup xs) /\ Ad p H (F.map A3) xs := Aa.shape r
theorem Aa.ofRow {p : Addr} {H : Hp} {r : List Int} {v : V} (h : Aa p H (A3 r) v) : ∃ A,v = .ref A /\ H A = some (.tup (r.map V.int)) := by
 obtain ⟨A,xs,rfl,hA,rs⟩ := Aa.shape h
 rw [Ad.ints rs] at hA
 exact ⟨A,rfl,hA⟩
theorem Feed.of {f : V} (r : Aa p H (FD G) f) : Feed H G f := by
 obtain ⟨A,xs,rfl,hA,rs⟩ := Aa.firing r
 have l := rs.len
 rw [List.length_map] at l
 refine ⟨A,xs,rfl,l.symm,.inl ⟨hA,fun i r x hr hx => ?_⟩⟩
 obtain ⟨r',hr',rr⟩ := Ad.mapGot rs hx
 rw [hr] at hr'
 cases hr'
 exact Aa.ofRow rr
def CP (P : PL) (S : SY) (F : List (List Int)) (k : Nat) : List Int := (List.range k).map fun j => Bf P S F (j + 1)
theorem KI {P : PL} : CP P S F (k + 1) = CP P S F k ++ [Bf P S F (k + 1)] := by unfold CP; rw [List.range_succ,List.map_append]; rfl
theorem Ii {P : PL} : (CP P S F k).length = k := by unfold CP; simp
theorem Gv {P : PL} {r d : Int} (hr : made F i = r) (hd : CC P S i = d) : (if Bf P S F i + r - d < P.hi then Bf P S F i + r - d else P.hi) = Bf P S F (i + 1) := by
 rw [DF]
 unfold Bo CZ
 rw [hr,hd]
 split <;> split <;> omega
theorem Gw {P : PL} (h : P.lo <= P.hi) : Bf P S F (i + 1) < P.lo ↔ Bo P S F i < P.lo := by
 rw [DF]
 unfold CZ
 split <;> omega
def Ij (P : PL) (S : SY) (F : List (List Int)) : Prop := ∀ i,i < S.ex.length -> P.lo <= Bo P S F i
def Gx : Sp := fun vs H Q _ => match vs with | [.ref m,d,f] => ∃ p P S F,P.lo <= P.hi /\ S.ex.length <= 8 /\ F.length = S.ex.length /\ H m = some (.tup [.int P.lo,.int P.hi,.int P.st]) /\ Aa p H (HI P S) d /\ Feed H F f /\ ∀ R H' k s,NF P S F k s -> Ab H H' -> H R = none -> H' R = some (.lst ((CP P S F k).map V.int)) -> Q (.ref R) H' | _ => False
def EW : Sp := fun vs H Q _ => match vs with | [v,u,f] => ∃ p P S F,PL.ok P /\ SY.ok S P.bs.length /\ F.length = S.ex.length /\ Aa p H P.d v /\ Aa p H S.d u /\ Feed H F f /\ ∀ b H',(b = true ↔ Ij P S F) -> Ab H H' -> Q (.bl b) H' | _ => False
def Gy : Sp := fun vs H Q _ => match vs with | [.ref p,.int m,.int h] => AU p H /\ 1 <= m /\ m <= 4 /\ 1 <= h /\ h <= 8 /\ ∀ t H' P S v u,PL.ok P -> SY.ok S P.bs.length -> Ij P S (caps P S) -> H' t = some (.tup [v,u]) -> Aa p H' P.d v -> Aa p H' S.d u -> Ev p H H' -> AU p H' -> Q (.ref t) H' | _ => False
theorem CMul.of_bounds {i j : Int} (h0 : 0 <= j) (h1 : j < 100) : CMul i j := .inr ⟨by omega,by omega⟩
theorem QQ {P : PL} (ok : P.ok) (so : S.ok P.bs.length) (he : P.es = []) (hx : ∀ a ∈ S.ex,a = 0) (hF : F = caps P S := by rfl) : Ij P S F := by
 subst hF
 have hd : ∀ i,i < S.ex.length -> CC P S i = 0 := fun i hi => by
  have z : S.ex[i]? = some S.ex[i] := List.getElem?_eq_getElem hi
  rw [EJ (HL z),he,hx _ (List.getElem_mem hi)]; rfl
 have hm : ∀ i,i < S.ex.length -> 0 <= made (caps P S) i := fun i hi => by
  have hg := Fx (P := P) hi
  rw [EI hg]
  have hb := (FA (S := S) ok _ (List.mem_of_getElem? hg)).1
  have : ∀ l : List Int,(∀ a ∈ l,0 <= a /\ a <= 9) -> 0 <= l.sum := fun l => by
   induction l with
   | nil => intro _; exact Int.le_refl _
   | cons a l ih =>
    intro h
    have h1 := h a List.mem_cons_self
    have h2 := ih fun x hx => h x (List.mem_cons_of_mem _ hx)
    rw [List.sum_cons]; omega
  exact this _ hb
 have hl : ∀ i,i <= S.ex.length -> P.lo <= Bf P S (caps P S) i := fun i => by
  induction i with
  | zero => intro _; exact ok.ls
  | succ i ih =>
   intro hi
   have h0 := ih (by omega)
   have h1 := hd i (by omega)
   have h2 := hm i (by omega)
   have h3 := ok.ls
   have h4 := ok.sh
   rw [DF]
   unfold Bo CZ
   split <;> omega
 intro i hi
 have h0 := hl i (by omega)
 have h1 := hd i hi
 have h2 := hm i hi
 unfold Bo
 omega
theorem QR {l : List Int} {k : Nat} {x : Int} (h : l[k]? = some x) : (l.take (k + 1)).sum = (l.take k).sum + x := by rw [Bm h,List.sum_append,List.sum_cons,List.sum_nil]; omega
section
variable {P : Program} {w : World} {K : PySem.W.Frag} {mg : Str -> Option Value} {base : Heap}
theorem sc__law_draws : Ax ["_law_plant_here","_law_story_here","_law_found","_law_hour","_law_extra","_law_draw_here","_law_first","_law_every"] ["_law_plant_here","_law_story_here"] (Aq s__law_draws) := AF
theorem QS (F : Df K mg "_law_draws" s__law_draws ["_law_plant_here","_law_story_here"]) (T : Tx mg)  : Fn P w K mg base 1 "_law_draws" ["_law_plant_here","_law_story_here"] Gm := by
 refine F.fn sc__law_draws (fun vs H Q E h => ?_) (fun f cdv A outer s H vs Q E hr h => ?_)
 ·unfold Gm at h; split at h; rfl; exact h.elim
 refine ⟨_,(Aj (AB (i := 2) sc__law_draws.nd rfl (Ay (by rfl)) (Bi BJ) (by rfl) (Az (by rfl))) (Aj (BI PassesOwn.never rfl (Fv P w K rfl T.b_enumerate (Ak (AD (AT K (by rfl)) (cx 1 (by rfl)) Ae (fun _ _ => rfl)) (by rfl)) (by rfl) (by rfl) (by rfl) (by rfl)) (AI K (n := 2) (Ah (Ag 3 sc__law_draws.nd (by rfl)) (Ah (Ag 4 sc__law_draws.nd (by rfl)) AH (by rfl)) (by rfl)) (by rfl) (by rfl) (by rfl) (by rfl)) (Aj (BI PassesOwn.never rfl (Cj K (AD (AT K (by rfl)) (cx 0 (by rfl)) Ae (fun _ _ => rfl)) (by rfl)) (AI K (n := 3) (Ah (Ag 5 sc__law_draws.nd (by rfl)) (Ah (Ag 6 sc__law_draws.nd (by rfl)) (Ah (Ag 7 sc__law_draws.nd (by rfl)) AH (by rfl)) (by rfl)) (by rfl)) (by rfl) (by rfl) (by rfl) (by rfl)) (Ao (AB (i := 4) sc__law_draws.nd rfl (Ay (by rfl)) (As A2 (cx 4 (by rfl)) (As Db (cx 5 (by rfl)) (BL GS rfl T.b_int L2.boot_int (Ak (DR (EG K (by rfl)) (cx 3 (by rfl)) (Oe rfl rfl T.b_list rfl T.b_range (AA (cx 6 (by rfl)) Ae (cx 7 (by rfl)) (by rfl)) (by rfl) (by rfl) (by rfl)) (by with_unfolding_all rfl)) (by rfl)) (by decide) (by decide) (by rfl) (by rfl)))) (by rfl) (Az (by rfl)))) (by intro _; rfl)) (Ao (Br (B5 PySem.F.plainAttrs_list PySem.F.slot_list_append PySem.F.type_list_append Cf (cx 2 (by rfl)) (Ak (cx 4 (by rfl)) (by rfl)) (by rfl) (by rfl) (by rfl) (by rfl) (by rfl)) (by rfl)))) (by intro _; rfl)) (Ao (Au (BL (CB K (by rfl)) rfl T.b_tuple Ci (Ak (cx 2 (by rfl)) (by rfl)) (by decide) (by decide) (by rfl) (by rfl)))))),?_⟩
 unfold Gm at h
 split at h
 ·rename_i v u
  obtain ⟨p,P,S,ok,so,r,ru,q⟩ := h
  obtain ⟨A,B,E,xf,rfl,hA,hB,hE,rf⟩ := Aa.story ru
  obtain ⟨PA,PB,PE,PM,xb,xe,rfl,pA,pB,rb,pE,re,pM⟩ := Aa.plant r
  have x8 := so.x8
  have e4 := ok.e4
  have le := re.len
  rw [List.length_map] at le
  intro R hR
  have s0 : Ab H (upd H R (.lst [])) := Ab.new hR
  refine ⟨A,_,0,.ref B,rfl,rfl,Af.of (s0 _ _ hA),rfl,B,rfl,⟨_,Af.of (s0 _ _ hB)⟩,for_enum (xs := S.ex.map V.int) (fun i σ H1 => (∃ y3 y4 y5 y6 y7,σ = [some (.ref PA),some (.ref A),some (.ref R),y3,y4,y5,y6,y7]) /\ Ab H H1 /\ H1 R = some (.lst (((draws P S).take i).map V.int)))
   ⟨⟨_,_,_,_,_,rfl⟩,s0,Ai⟩ (fun i σ H1 h => Af.of (h.2.1 _ _ hB)) (fun i x σ H1 T hx h hT => ?_) fun σ H1 h => ?_⟩
  ·obtain ⟨⟨y3,y4,y5,y6,y7,rfl⟩,s1,hR1⟩ := h
   rw [List.getElem?_map] at hx
   cases z : S.ex[i]? with
   | none => rw [z] at hx; cases hx
   | some n =>
    rw [z] at hx
    cases hx
    have hi : i < S.ex.length := (List.getElem?_eq_some_iff.mp z).1
    have nT := Ab.new (o := .tup [.int i,.int n]) hT
    have s2 := s1.trans nT
    refine ⟨T,_,rfl,Af.of Ai,rfl,_,_,rfl,_,_,rfl,rfl,?_⟩
    refine ⟨PA,_,1,.ref PE,rfl,rfl,Af.of (s2 _ _ pA),rfl,PE,rfl,⟨xe,Af.of (s2 _ _ pE)⟩,LM (xs := xe) (fun k σ H2 => (∃ y5 y6 y7,σ = [some (.ref PA),some (.ref A),some (.ref R),some (.int i),some (.int (n + ((P.es.map fun e => drawn e i).take k).sum)),y5,y6,y7]) /\ Ab (upd H1 T (.tup [.int i,.int n])) H2)
     ⟨⟨_,_,_,congrArg (fun z => [some (V.ref PA),some (.ref A),some (.ref R),some (.int i),some (.int z),y5,y6,y7]) (Int.add_zero n).symm⟩,Ab.refl _⟩ (fun k σ H2 _ h => Af.of (h.2 _ _ (s2 _ _ pE))) (fun k x σ H2 hx h => ?_) fun σ H2 h => ?_⟩
    ·obtain ⟨⟨y5,y6,y7,rfl⟩,s3⟩ := h
     obtain ⟨e,he,rd⟩ := Ad.mapGot re hx
     obtain ⟨o1,o2,o3,o4,o5,o6⟩ := ok.e e (List.mem_of_getElem? he)
     obtain ⟨a,zs,rfl,ha,rz⟩ := Aa.shape (Aa.ev (Ev.same (s2.trans s3)) _ _ rd)
     obtain ⟨w1,w2,w3,rfl,r1,r2,r3⟩ := Ad.three rz
     unfold Aa at r1 r2 r3
     subst r1 r2 r3
     refine ⟨a,_,rfl,Af.of ha,rfl,_,_,rfl,_,_,rfl,_,_,rfl,rfl,?_⟩
     refine ⟨_,_,_,rfl,⟨by omega,by omega,by omega,by omega,by omega,by omega⟩,fun l hl => ⟨l,_,rfl,.inl (Am.of Ai),rfl,Of,.inr ⟨_,rfl,CMul.of_bounds (by split <;> omega) (by split <;> omega),⟨some (.int e.1),some (.int e.2.1),some (.int e.2.2),?_⟩,s3.trans (Ab.new hl)⟩⟩⟩
     have e1 : e.1 * (if (if false = true then !BP (V.int (i : Int)) ((C1 e.2.1 8 e.2.2).map V.int) else BP (V.int (i : Int)) ((C1 e.2.1 8 e.2.2).map V.int)) = true then 1 else 0) = drawn e i := by
      have ei : (if false = true then !BP (V.int (i : Int)) ((C1 e.2.1 8 e.2.2).map V.int) else BP (V.int (i : Int)) ((C1 e.2.1 8 e.2.2).map V.int)) = BP (V.int (i : Int)) ((C1 e.2.1 8 e.2.2).map V.int) := rfl
      rw [ei,Og o5 (by omega)]
      unfold drawn
      by_cases c : (i : Int) < e.2.1 \/ ((i : Int) - e.2.1) % e.2.2 ≠ 0
      ·rw [if_pos c,decide_eq_false (fun z => z c),if_neg (by decide),Int.mul_zero]
      ·rw [if_neg c,decide_eq_true c,if_pos rfl,Int.mul_one]
     have e2 : n + ((P.es.map fun e => drawn e i).take k).sum + drawn e i = n + ((P.es.map fun e => drawn e i).take (k + 1)).sum := by
      rw [QR (x := drawn e i) (by rw [List.getElem?_map,he]; rfl)]; omega
     exact congrArg (fun z => [some (V.ref PA),some (.ref A),some (.ref R),some (.int i),some (.int z),some (.int e.1),some (.int e.2.1),some (.int e.2.2)]) ((congrArg (fun z => n + ((P.es.map fun e => drawn e i).take k).sum + z) e1).trans e2)
    ·obtain ⟨⟨y5,y6,y7,rfl⟩,s3⟩ := h
     rw [List.take_of_length_le (l := P.es.map fun e => drawn e i) (by rw [List.length_map]; omega)]
     have kR := (nT.trans s3) _ _ hR1
     refine ⟨.inl ⟨rfl,_,Am.of kR⟩,R,_,_,rfl,rfl,kR,Dk (by rw [List.length_map,List.length_take]; omega),⟨_,_,_,_,_,rfl⟩,Ab.own (s2.trans s3) hR,?_⟩
     rw [Ai,Bm (HL z),List.map_append]; rfl
  ·obtain ⟨⟨y3,y4,y5,y6,y7,rfl⟩,s1,hR1⟩ := h
   refine ⟨R,_,rfl,.inl ⟨Am.of hR1,fun t ht => q _ _ (s1.trans (Ab.new ht)) (Aa.row ?_)⟩⟩
   rw [Ai,List.take_of_length_le (by rw [B6,List.length_map]; exact Nat.le_refl _)]
 ·exact h.elim
theorem sc__law_mains : Ax ["_law_main","_law_draws_here","_law_firing","_law_low","_law_high","_law_here","_law_found","_law_draw_here","_law_row"] ["_law_main","_law_draws_here","_law_firing"] (Aq s__law_mains) := AF
theorem QT (F : Df K mg "_law_mains" s__law_mains ["_law_main","_law_draws_here","_law_firing"]) (T : Tx mg)  : Fn P w K mg base 1 "_law_mains" ["_law_main","_law_draws_here","_law_firing"] Gx := by
 refine F.fn sc__law_mains (fun vs H Q E h => ?_) (fun f cdv A outer s H vs Q E hr h => ?_)
 ·unfold Gx at h; split at h; rfl; exact h.elim
 refine ⟨_,(Aj (Bb (cx 0 (by rfl)) (AI K (n := 3) (Ah (Ag 3 sc__law_mains.nd (by rfl)) (Ah (Ag 4 sc__law_mains.nd (by rfl)) (Ah (Ag 5 sc__law_mains.nd (by rfl)) AH (by rfl)) (by rfl)) (by rfl)) (by rfl) (by rfl) (by rfl) (by rfl)) (by rfl) (by rfl) (by rfl)) (Aj (AB (i := 6) sc__law_mains.nd rfl (Ay (by rfl)) (Bi BJ) (by rfl) (Az (by rfl))) (Aj (BI PassesOwn.never rfl (Oa (JP P w K rfl T.b_zip (Al (cx 1 (by rfl)) (cx 2 (by rfl)) (by rfl)) (by rfl) (by rfl) (by rfl) (by rfl) (by rfl)) (Nr P w K rfl T.b_zip (Al (cx 1 (by rfl)) (cx 2 (by rfl)) (by rfl)) (by rfl) (by rfl) (by rfl) (by rfl) (by rfl))) (AI K (n := 2) (Ah (Ag 7 sc__law_mains.nd (by rfl)) (Ah (Ag 8 sc__law_mains.nd (by rfl)) AH (by rfl)) (by rfl)) (by rfl) (by rfl) (by rfl) (by rfl)) (Aj (AB (i := 5) sc__law_mains.nd rfl (Ay (by rfl)) (AC (GR rfl) rfl T.b_min boot_min (Al (cx 4 (by rfl)) (As Bk (As A2 (cx 5 (by rfl)) (AC (FC rfl) rfl T.b_sum boot_sum (Ak (cx 8 (by rfl)) (by rfl)) (by decide) (by decide) (by rfl) (by rfl))) (cx 7 (by rfl))) (by rfl)) (by decide) (by decide) (by rfl) (by rfl)) (by rfl) (Az (by rfl))) (Aj (A8 (A7 EF (cx 5 (by rfl)) (cx 3 (by rfl)) (A6 _)) (Ao (Au (cx 6 (by rfl)))) A5) (Ao (Br (B5 PySem.F.plainAttrs_list PySem.F.slot_list_append PySem.F.type_list_append Cf (cx 6 (by rfl)) (Ak (cx 5 (by rfl)) (by rfl)) (by rfl) (by rfl) (by rfl) (by rfl) (by rfl)) (by rfl))))) (by intro _; rfl)) (Ao (Au (cx 6 (by rfl))))))),?_⟩
 unfold Gx at h
 split at h
 ·rename_i m d f
  obtain ⟨p,P,S,F,hlh,x8,fl,hm,rd,fd,q⟩ := h
  refine ⟨m,_,rfl,Af.of hm,rfl,_,_,rfl,_,_,rfl,_,_,rfl,rfl,fun R hR => ?_⟩
  have sR := Ab.new (o := .lst []) hR
  have hHR : H R = none := hR
  obtain ⟨D,rfl,hD⟩ := Aa.ofRow (r := draws P S) (Aa.ev (Ev.same sR) _ _ rd)
  have fd2 := fd.same sR
  have kR0 : upd H R (.lst []) R = some (.lst []) := Ai
  have sH2 := sR
  generalize upd H R (.lst []) = H2 at *
  have ld : ((draws P S).map V.int).length = S.ex.length := by rw [List.length_map,B6]
  obtain ⟨GA,gx,rfl,lg,⟨hG,rows⟩ | ⟨hG,rows⟩⟩ := fd2
  ·refine Or.inl ⟨D,GA,rfl,⟨_,Af.of hD⟩,⟨_,Af.of hG⟩,JV (xs := (draws P S).map V.int) (ys := gx) (fun i σ H' => (∃ y7 y8,σ = [some (.ref m),some (.ref D),some (.ref GA),some (.int P.lo),some (.int P.hi),some (.int (Bf P S F i)),some (.ref R),y7,y8]) /\ Ev R H2 H' /\ (∀ j,j < i -> P.lo <= Bo P S F j) /\ H' R = some (.lst ((CP P S F i).map V.int))) (by omega)
     ⟨⟨_,_,rfl⟩,Ev.refl,(fun j hj => absurd hj (Nat.not_lt_zero _)),kR0⟩ (fun i σ H' h => ⟨Af.of (h.2.1.tup hD),Af.of (h.2.1.tup hG)⟩) (fun i x y σ H' T hx hy h hT => ?_) fun σ H' h => ?_⟩
   ·obtain ⟨⟨y7,y8,rfl⟩,ev,up,hRx⟩ := h
    rw [List.getElem?_map] at hx
    cases z : (draws P S)[i]? with
    | none => rw [z] at hx; cases hx
    | some d0 =>
     rw [z] at hx
     cases hx
     have hi : i < S.ex.length := by have := (List.getElem?_eq_some_iff.mp z).1; rw [B6] at this; exact this
     obtain ⟨r,hr⟩ : ∃ r,F[i]? = some r := ⟨F[i],by simp⟩
     obtain ⟨ra,rfl,hra⟩ := rows i r y hr hy
     have nT := Ab.new (o := .tup [.int d0,.ref ra]) hT
     have ev1 : Ev R H2 (upd H' T (.tup [.int d0,.ref ra])) := ev.trans (Ev.same nT)
     refine ⟨T,_,rfl,Af.of Ai,rfl,_,_,rfl,_,_,rfl,rfl,ra,r,rfl,.inr (ev1.tup hra),_,_,rfl,⟨fun c => ?_,fun c => ?_⟩⟩
     ·have c' := of_decide_eq_true c
      have c' : (if Bf P S F i + r.sum - d0 < P.hi then Bf P S F i + r.sum - d0 else P.hi) < P.lo := c'
      rw [Gv (EI hr) (EJ z)] at c'
      exact q R _ i (some ((i : Int),P.lo - Bo P S F i)) ⟨Nat.le_of_lt hi,up,.inr ⟨hi,(Gw hlh).mp c',rfl⟩⟩ (Ab.evOwn sH2 hHR ev1) hHR (nT _ _ hRx)
     ·have c' := of_decide_eq_false c
      have c' : ¬ (if Bf P S F i + r.sum - d0 < P.hi then Bf P S F i + r.sum - d0 else P.hi) < P.lo := c'
      have em := Gv (EI hr) (EJ z)
      rw [em] at c'
      have kR := nT _ _ hRx
      refine ⟨.inl ⟨rfl,_,Am.of kR⟩,R,_,_,rfl,rfl,kR,Dk (by rw [List.length_map,Ii]; omega),⟨some (.int d0),some (.ref ra),congrArg (fun z => [some (V.ref m),some (.ref D),some (.ref GA),some (.int P.lo),some (.int P.hi),some (.int z),some (.ref R),some (.int d0),some (.ref ra)]) em⟩,ev1.trans (Ev.pen kR),fun j hj => ?_,?_⟩
      ·by_cases cj : j = i
       ·subst cj
        exact Int.not_lt.mp fun w => c' ((Gw hlh).mpr w)
       ·exact up j (by omega)
      ·rw [Ai,KI,List.map_append]
       exact congrArg (fun z => some (HO.lst ((CP P S F i).map V.int ++ [V.int z]))) em
   ·obtain ⟨⟨y7,y8,rfl⟩,ev,up,hRx⟩ := h
    rw [List.length_map,B6] at up hRx
    exact q R H' S.ex.length none ⟨Nat.le_refl _,up,.inl ⟨rfl,rfl⟩⟩ (Ab.evOwn sH2 hHR ev) hHR hRx
  ·have nG : GA ≠ R := fun e => by
    subst e
    obtain ⟨A',gx',eA,_,z⟩ := fd
    cases eA
    rcases z with z | z <;> (rw [hHR] at z; cases z.1)
   have nRow : ∀ (i : Nat) g a,F[i]? = some g -> gx[i]? = some (.ref a) -> a ≠ R := fun i g a hg hy e => by
    subst e
    obtain ⟨A',gx',eA,lg2,z⟩ := fd
    cases eA
    rcases z with ⟨z1,z2⟩ | ⟨z1,z2⟩
    ·have := sH2 _ _ z1
     rw [hG] at this; cases this
    ·have := sH2 _ _ z1
     rw [hG] at this
     cases this
     obtain ⟨a',e',k⟩ := z2 i g _ hg hy
     cases e'
     rw [hHR] at k; cases k
   refine Or.inr ⟨D,GA,rfl,⟨_,Af.of hD⟩,⟨_,Am.of hG⟩,JV (xs := (draws P S).map V.int) (ys := gx) (fun i σ H' => (∃ y7 y8,σ = [some (.ref m),some (.ref D),some (.ref GA),some (.int P.lo),some (.int P.hi),some (.int (Bf P S F i)),some (.ref R),y7,y8]) /\ Ev R H2 H' /\ (∀ j,j < i -> P.lo <= Bo P S F j) /\ H' R = some (.lst ((CP P S F i).map V.int))) (by omega)
     ⟨⟨_,_,rfl⟩,Ev.refl,(fun j hj => absurd hj (Nat.not_lt_zero _)),kR0⟩ (fun i σ H' h => ⟨Af.of (h.2.1.tup hD),Am.of (h.2.1.lst hG nG)⟩) (fun i x y σ H' T hx hy h hT => ?_) fun σ H' h => ?_⟩
   ·obtain ⟨⟨y7,y8,rfl⟩,ev,up,hRx⟩ := h
    rw [List.getElem?_map] at hx
    cases z : (draws P S)[i]? with
    | none => rw [z] at hx; cases hx
    | some d0 =>
     rw [z] at hx
     cases hx
     have hi : i < S.ex.length := by have := (List.getElem?_eq_some_iff.mp z).1; rw [B6] at this; exact this
     obtain ⟨r,hr⟩ : ∃ r,F[i]? = some r := ⟨F[i],by simp⟩
     obtain ⟨ra,rfl,hra⟩ := rows i r y hr hy
     have nT := Ab.new (o := .tup [.int d0,.ref ra]) hT
     have ev1 : Ev R H2 (upd H' T (.tup [.int d0,.ref ra])) := ev.trans (Ev.same nT)
     refine ⟨T,_,rfl,Af.of Ai,rfl,_,_,rfl,_,_,rfl,rfl,ra,r,rfl,.inl (ev1.lst hra (nRow i r ra hr hy)),_,_,rfl,⟨fun c => ?_,fun c => ?_⟩⟩
     ·have c' := of_decide_eq_true c
      have c' : (if Bf P S F i + r.sum - d0 < P.hi then Bf P S F i + r.sum - d0 else P.hi) < P.lo := c'
      rw [Gv (EI hr) (EJ z)] at c'
      exact q R _ i (some ((i : Int),P.lo - Bo P S F i)) ⟨Nat.le_of_lt hi,up,.inr ⟨hi,(Gw hlh).mp c',rfl⟩⟩ (Ab.evOwn sH2 hHR ev1) hHR (nT _ _ hRx)
     ·have c' := of_decide_eq_false c
      have c' : ¬ (if Bf P S F i + r.sum - d0 < P.hi then Bf P S F i + r.sum - d0 else P.hi) < P.lo := c'
      have em := Gv (EI hr) (EJ z)
      rw [em] at c'
      have kR := nT _ _ hRx
      refine ⟨.inl ⟨rfl,_,Am.of kR⟩,R,_,_,rfl,rfl,kR,Dk (by rw [List.length_map,Ii]; omega),⟨some (.int d0),some (.ref ra),congrArg (fun z => [some (V.ref m),some (.ref D),some (.ref GA),some (.int P.lo),some (.int P.hi),some (.int z),some (.ref R),some (.int d0),some (.ref ra)]) em⟩,ev1.trans (Ev.pen kR),fun j hj => ?_,?_⟩
      ·by_cases cj : j = i
       ·subst cj
        exact Int.not_lt.mp fun w => c' ((Gw hlh).mpr w)
       ·exact up j (by omega)
      ·rw [Ai,KI,List.map_append]
       exact congrArg (fun z => some (HO.lst ((CP P S F i).map V.int ++ [V.int z]))) em
   ·obtain ⟨⟨y7,y8,rfl⟩,ev,up,hRx⟩ := h
    rw [List.length_map,B6] at up hRx
    exact q R H' S.ex.length none ⟨Nat.le_refl _,up,.inl ⟨rfl,rfl⟩⟩ (Ab.evOwn sH2 hHR ev) hHR hRx
 ·exact h.elim
theorem QU : Ax ["_law_plant_here","_law_story_here","_law_firing"] ["_law_plant_here","_law_story_here","_law_firing"] (Aq s__law_keeps) := AF
theorem QV (F : Df K mg "_law_keeps" s__law_keeps ["_law_plant_here","_law_story_here","_law_firing"]) (T : Tx mg) (D__law_draws : Fn P w K mg base 1 "_law_draws" ["_law_plant_here","_law_story_here"] Gm) (D__law_mains : Fn P w K mg base 1 "_law_mains" ["_law_main","_law_draws_here","_law_firing"] Gx) : Fn P w K mg base 2 "_law_keeps" ["_law_plant_here","_law_story_here","_law_firing"] EW := by
 refine F.fn QU (fun vs H Q E h => ?_) (fun f cdv A outer s H vs Q E hr h => ?_)
 ·unfold EW at h; split at h; rfl; exact h.elim
 refine ⟨_,(Ao (Au (DR CT (AC (BM K (by rfl)) rfl T.b_len PySem.boot_len (Ak (An D__law_mains (hr.mono (by decide)) rfl (AA (AD (AT K (by rfl)) (cx 0 (by rfl)) Ae (fun _ _ => rfl)) (An D__law_draws (hr.mono (by decide)) rfl (Al (cx 0 (by rfl)) (cx 1 (by rfl)) (by rfl)) (by decide) (by rfl) (by rfl)) (cx 2 (by rfl)) (by rfl)) (by decide) (by rfl) (by rfl)) (by rfl)) (by decide) (by decide) (by rfl) (by rfl)) (AC (BM K (by rfl)) rfl T.b_len PySem.boot_len (Ak (cx 2 (by rfl)) (by rfl)) (by decide) (by decide) (by rfl) (by rfl)) (A6 _)))),?_⟩
 unfold EW at h
 split at h
 ·rename_i v u f
  obtain ⟨p,P,S,F,ok,so,fl,r,ru,fd,q⟩ := h
  have x8 := so.x8
  have hl : P.lo <= P.hi := Int.le_trans ok.ls ok.sh
  obtain ⟨PA,PB,PE,PM,xb,xe,rfl,pA,pB,rb,pE,re,pM⟩ := Aa.plant r
  refine ⟨PA,_,2,.ref PM,rfl,rfl,Af.of pA,rfl,p,P,S,ok,so,r,ru,fun d H1 s1 rd => ⟨p,P,S,F,hl,x8,fl,s1 _ _ pM,rd,fd.same s1,fun R H2 k s run s2 hR hRx => ?_⟩⟩
  have fd2 := (fd.same (s1.trans s2))
  obtain ⟨GA,gx,rfl,lg,fdc⟩ := fd2
  have kg : Am K H2 GA gx \/ Af K H2 GA gx := fdc.elim (fun z => .inr (Af.of z.1)) fun z => .inl (Am.of z.1)
  refine ⟨R,_,rfl,.inl (Am.of hRx),GA,gx,rfl,kg,rfl,?_⟩
  refine q _ _ ?_ (s1.trans s2)
  rw [List.length_map,Ii,lg,fl]
  constructor
  ·intro c i hi
   have e : (k : Int) = (S.ex.length : Int) := by
    have := of_decide_eq_true c
    injection this
   exact run.up i (by omega)
  ·intro kp
   refine decide_eq_true ?_
   rcases run.fin with ⟨_,e⟩ | ⟨e1,e2,_⟩
   ·rw [e]
   ·have := kp k e1
    omega
 ·exact h.elim
theorem sc__law_pair : Ax ["_law_pen_here","_law_most","_law_hours","_law_turn","_law_plant_here","_law_story_here"] ["_law_pen_here","_law_most","_law_hours"] (Aq s__law_pair) := AF
theorem QW (F : Df K mg "_law_pair" s__law_pair ["_law_pen_here","_law_most","_law_hours"]) (T : Tx mg) (D__law_caps : Fn P w K mg base 1 "_law_caps" ["_law_plant_here","_law_story_here"] EU) (D__law_keeps : Fn P w K mg base 2 "_law_keeps" ["_law_plant_here","_law_story_here","_law_firing"] EW) (D__law_plant : Fn P w K mg base 2 "_law_plant" ["_law_pen_here","_law_most"] Gf) (D__law_story : Fn P w K mg base 2 "_law_story" ["_law_pen_here","_law_plant_here","_law_most"] Gk) : Fn P w K mg base 3 "_law_pair" ["_law_pen_here","_law_most","_law_hours"] Gy := by
 refine F.fn sc__law_pair (fun vs H Q E h => ?_) (fun f cdv A outer s H vs Q E hr h => ?_)
 ·unfold Gy at h; split at h; rfl; exact h.elim
 refine ⟨_,(Aj (BI PassesOwn.never rfl (C8 rfl T.b_range (Ak Ae (by rfl)) (by rfl)) (Ag 3 sc__law_pair.nd (by rfl)) (Aj (AB (i := 4) sc__law_pair.nd rfl (Ay (by rfl)) (An D__law_plant (hr.mono (by decide)) rfl (Al (cx 0 (by rfl)) (cx 1 (by rfl)) (by rfl)) (by decide) (by rfl) (by rfl)) (by rfl) (Az (by rfl))) (Aj (AB (i := 5) sc__law_pair.nd rfl (Ay (by rfl)) (An D__law_story (hr.mono (by decide)) rfl (AA (cx 0 (by rfl)) (cx 4 (by rfl)) (cx 2 (by rfl)) (by rfl)) (by decide) (by rfl) (by rfl)) (by rfl) (Az (by rfl))) (Ao (A8 (BV (An D__law_keeps (hr.mono (by decide)) rfl (AA (cx 4 (by rfl)) (cx 5 (by rfl)) (An D__law_caps (hr.mono (by decide)) rfl (Al (cx 4 (by rfl)) (cx 5 (by rfl)) (by rfl)) (by decide) (by rfl) (by rfl)) (by rfl)) (by decide) (by rfl) (by rfl)) (by intro _; rfl)) (Ao (Au (A9 (Al (cx 4 (by rfl)) (cx 5 (by rfl)) (by rfl))))) A5)))) (by intro _; rfl)) (Ao (Au (A9 (Al (As DD (Cy s_tup (cx 4 (by rfl)) C9 (BU Ae)) (A9 (Al (A9 BJ) (AD (AT K (by rfl)) (cx 4 (by rfl)) Ae (fun _ _ => rfl)) (by rfl)))) (A9 (Al (As NI (A9 (Ak Ae (by rfl))) (AC (BM K (by rfl)) rfl T.b_len PySem.boot_len (Ak (AD (AT K (by rfl)) (cx 5 (by rfl)) Ae (fun _ _ => rfl)) (by rfl)) (by decide) (by decide) (by rfl) (by rfl))) (AD (AT K (by rfl)) (cx 5 (by rfl)) Ae (fun _ _ => rfl)) (by rfl))) (by rfl)))))),?_⟩
 unfold Gy at h
 split at h
 ·rename_i p m h
  obtain ⟨pn,m1,m4,h1,h8,q⟩ := h
  refine ⟨5,rfl,by decide,by decide,Ey (n := 5) (fun i σ H' => (∃ x3 x4 x5,σ = [some (.ref p),some (.int m),some (.int h),x3,x4,x5] /\ (0 < i -> ∃ v u P S,x4 = some v /\ x5 = some u /\ PL.ok P /\ SY.ok S P.bs.length /\ Aa p H' P.d v /\ Aa p H' S.d u)) /\ Ev p H H' /\ AU p H') ⟨⟨_,_,_,rfl,fun z => absurd z (Nat.lt_irrefl _)⟩,Ev.refl,pn⟩ (fun i σ H1 hi hP => ?_) fun σ H1 hP => ?_⟩
  ·obtain ⟨⟨x3,x4,x5,rfl,_⟩,e1,pn1⟩ := hP
   refine ⟨pn1,m1,m4,fun v H2 bs es lo hi st gp rv e2 pn2 => ?_⟩
   obtain ⟨P,ok,eP⟩ := gp.pl
   rw [eP] at rv
   refine ⟨pn2,h1,h8,P,ok,rv,fun u H3 S so ru e3 pn3 => ?_⟩
   have rv3 := Aa.ev e3 _ _ rv
   refine ⟨p,P,S,ok,so,rv3,ru,fun c H4 s4 rc => ⟨p,P,S,caps P S,ok,so,DE,Aa.ev (Ev.same s4) _ _ rv3,Aa.ev (Ev.same s4) _ _ ru,Feed.of rc,fun b H5 hb s5 => ⟨fun cc => ?_,fun cc => ?_⟩⟩⟩
   ·intro t ht
    have n1 := Ab.new (o := .tup [v,u]) ht
    have s45 := s4.trans (s5.trans n1)
    exact q t _ P S v u ok so (hb.mp cc) Ai (Aa.ev (Ev.same s45) _ _ rv3) (Aa.ev (Ev.same s45) _ _ ru) (e1.trans (e2.trans (e3.trans (Ev.same s45)))) (pn3.same s45)
   ·have s45 := s4.trans s5
    exact ⟨⟨_,_,_,rfl,fun _ => ⟨v,u,P,S,rfl,rfl,ok,so,Aa.ev (Ev.same s45) _ _ rv3,Aa.ev (Ev.same s45) _ _ ru⟩⟩,e1.trans (e2.trans (e3.trans (Ev.same s45))),pn3.same s45⟩
  ·obtain ⟨⟨x3,x4,x5,rfl,hh⟩,e1,pn1⟩ := hP
   obtain ⟨v,u,P,S,rfl,rfl,ok,so,rv,ru⟩ := hh (by decide)
   obtain ⟨A,B,E,xf,rfl,hA,hB,hE,rf⟩ := Aa.story ru
   obtain ⟨PA,PB,PE,PM,xb,xe,rfl,pA,pB,rb,pE,re,pM⟩ := Aa.plant rv
   have x8 := so.x8
   have x1 := so.x1
   refine ⟨1,rfl,PA,_,rfl,pA,fun u1 H2 s2 k2 z1 hz1 => ?_⟩
   have n1 := Ab.new (o := .tup []) hz1
   refine ⟨PA,_,2,.ref PM,rfl,rfl,Af.of ((s2.trans n1) _ _ pA),rfl,fun z2 hz2 => ?_⟩
   have n2 := Ab.new (o := .tup [.ref z1,.ref PM]) hz2
   have s12 := s2.trans (n1.trans n2)
   refine ⟨u1,z2,_,_,rfl,rfl,(n1.trans n2) _ _ k2,Ai,(show (1 : Nat) + 2 <= 1000 by decide),fun u3 H3 s3 k3 z3 hz3 => ?_⟩
   have n3 := Ab.new (o := .tup [.int 0]) hz3
   have s13 := s12.trans (s3.trans n3)
   refine ⟨A,_,0,.ref B,rfl,rfl,Af.of (s13 _ _ hA),rfl,B,_,rfl,.inr (Af.of (s13 _ _ hB)),z3,_,[.int 0],rfl,rfl,Ai,by simp,(by rw [List.length_map]; omega),(by rw [List.length_map]; omega),by simp,fun u4 H4 s4 k4 => ?_⟩
   rw [List.length_map,Int.toNat_natCast,QP] at k4
   have s14 := s13.trans s4
   refine ⟨A,_,1,.ref E,rfl,rfl,Af.of (s14 _ _ hA),rfl,fun z5 hz5 t ht => ?_⟩
   have n5 := Ab.new (o := .tup [.ref u4,.ref E]) hz5
   have n6 := Ab.new (o := .tup [.ref u3,.ref z5]) ht
   have s16 := s14.trans (n5.trans n6)
   let P' : PL := ⟨P.bs,[],P.lo,P.hi,P.st⟩
   let S' : SY := ⟨List.replicate S.ex.length 0,S.fs⟩
   have ok' : PL.ok P' := ⟨ok.b,ok.b1,ok.b4,fun _ z => (by cases z),Nat.zero_le _,ok.lo0,ok.ls,ok.sh,ok.h4⟩
   have le' : S'.ex.length = S.ex.length := List.length_replicate
   have so' : SY.ok S' P'.bs.length := ⟨by rw [le']; exact so.x1,by rw [le']; exact so.x8,fun a ha => by rw [List.eq_of_mem_replicate ha]; omega,so.f4,fun x hx => by rw [le']; exact so.f x hx⟩
   have z1k := ((n2.trans (s3.trans (n3.trans (s4.trans (n5.trans n6))))) _ _ (Ai (H := H2) (a := z1) (o := .tup [])))
   refine q t _ P' S' (.ref u3) (.ref z5) ok' so' (QQ ok' so' rfl fun a ha => List.eq_of_mem_replicate ha) Ai ?_ ?_ (e1.trans (Ev.same s16)) (pn1.same s16)
   ·have k3' := (n3.trans (s4.trans (n5.trans n6))) _ _ k3
    refine Aa.tup (xs := [.ref PB,.ref z1,.ref PM]) k3' (.cons (Aa.tup (s16 _ _ pB) (Ad.ev (Ev.same s16) _ _ rb)) (.cons (Aa.tup z1k .nil) (.cons (Aa.tup (s16 _ _ pM) (.cons Aa.int (.cons Aa.int (.cons Aa.int .nil)))) .nil)))
   ·have k5 := n6 _ _ (Ai (H := H4) (a := z5) (o := .tup [.ref u4,.ref E]))
    refine Aa.tup k5 (.cons (Aa.row ?_) (.cons (Aa.tup (s16 _ _ hE) (Ad.ev (Ev.same s16) _ _ rf)) .nil))
    have := (n5.trans n6) _ _ k4
    rw [this,List.map_replicate]
 ·exact h.elim
end
end MF
end
section
namespace MF
open PySem PySem.Spec PyProof.Rows L2
structure Tc (K : PySem.W.Frag) (mg : Str -> Option Value) (M : Addr) (ds : List Addr) : Prop where
 c_NoPlant : mg "NoPlant" = some (.ref (ds.getD 0 0))
 c_NoStory : mg "NoStory" = some (.ref (ds.getD 1 0))
 c_NoFiring : mg "NoFiring" = some (.ref (ds.getD 2 0))
 c_NoHour : mg "NoHour" = some (.ref (ds.getD 3 0))
 c_NoBoiler : mg "NoBoiler" = some (.ref (ds.getD 4 0))
 c_NoPrices : mg "NoPrices" = some (.ref (ds.getD 5 0))
 c_NoWay : mg "NoWay" = some (.ref (ds.getD 6 0))
 c_NoSet : mg "NoSet" = some (.ref (ds.getD 7 0))
 c_NoTanks : mg "NoTanks" = some (.ref (ds.getD 8 0))
 c_NoPump : mg "NoPump" = some (.ref (ds.getD 9 0))
 c_NoFeeding : mg "NoFeeding" = some (.ref (ds.getD 10 0))
 c_NoReadings : mg "NoReadings" = some (.ref (ds.getD 11 0))
 c_NoStart : mg "NoStart" = some (.ref (ds.getD 12 0))
 c_NoShifts : mg "NoShifts" = some (.ref (ds.getD 13 0))
 c_NoBook : mg "NoBook" = some (.ref (ds.getD 14 0))
 c_NoAmount : mg "NoAmount" = some (.ref (ds.getD 15 0))
 c_NoDeed : mg "NoDeed" = some (.ref (ds.getD 16 0))
 c_NoLine : mg "NoLine" = some (.ref (ds.getD 17 0))
 c_NoText : mg "NoText" = some (.ref (ds.getD 18 0))
 c_MainError : mg "MainError" = some (.ref M)
 mB : PySem.W.mroIn K M (.type "BaseException") = some true
 mT : PySem.W.typeIn K (.ref M) = some (.type "type")
 n_NoPlant : PySem.W.nsIn K mainGlobals "NoPlant" = some (some (.ref (ds.getD 0 0)))
 x_NoPlant : PySem.W.excIn K (ds.getD 0 0) CG "ValueError.__new__" = true
 w_NoPlant : BZ K M ds 0 = true
 n_NoStory : PySem.W.nsIn K mainGlobals "NoStory" = some (some (.ref (ds.getD 1 0)))
 x_NoStory : PySem.W.excIn K (ds.getD 1 0) CG "ValueError.__new__" = true
 w_NoStory : BZ K M ds 1 = true
 n_NoHour : PySem.W.nsIn K mainGlobals "NoHour" = some (some (.ref (ds.getD 3 0)))
 x_NoHour : PySem.W.excIn K (ds.getD 3 0) CG "ValueError.__new__" = true
 w_NoHour : BZ K M ds 3 = true
 n_NoBoiler : PySem.W.nsIn K mainGlobals "NoBoiler" = some (some (.ref (ds.getD 4 0)))
 x_NoBoiler : PySem.W.excIn K (ds.getD 4 0) CG "ValueError.__new__" = true
 w_NoBoiler : BZ K M ds 4 = true
 n_NoWay : PySem.W.nsIn K mainGlobals "NoWay" = some (some (.ref (ds.getD 6 0)))
 x_NoWay : PySem.W.excIn K (ds.getD 6 0) CG "ValueError.__new__" = true
 w_NoWay : BZ K M ds 6 = true
section
variable {P : Program} {w : World} {K : PySem.W.Frag} {mg : Str -> Option Value} {base : Heap} {M : Addr} {ds : List Addr}
theorem sc__law_which : Ax ["_law_e","_law_marks","_law_words"] ["_law_e"] (Aq s__law_which) := AF
theorem QX (F : Df K mg "_law_which" s__law_which ["_law_e"]) (T : Tx mg) (C : Tc K mg M ds) : D8 P w K mg base 1 "_law_which" ["_law_e"] (D7 (Wd K M ds)) := by
 refine F.fnQ sc__law_which (fun vs H Q E h => ?_) (fun f cdv A outer s H vs Q hr h => ?_)
 ·unfold D7 at h; split at h; rfl; exact h.elim
 refine ⟨_,(@Aj _ _ _ _ _ (@AB _ _ (1) _ _ _ _ sc__law_which.nd rfl (Ay (by rfl)) (@Bi _ _ _ _ (@A4 _ _ _ _ _ _ _ _ _ (@AC _ _ _ _ _ _ _ _ _ (Bp K) rfl T.b_isinstance boot_isinstance (@Al _ _ _ _ _ (@cx _ 0 _ _ (by rfl)) (@A1 _ _ (.ref (ds.getD 0 0)) _ _ rfl C.c_NoPlant rfl (by decide)) (by rfl)) (by decide) (by decide) (by rfl) (by rfl)) (@AC _ _ _ _ _ _ _ _ _ (Bp K) rfl T.b_isinstance boot_isinstance (@Al _ _ _ _ _ (@cx _ 0 _ _ (by rfl)) (@A1 _ _ (.ref (ds.getD 1 0)) _ _ rfl C.c_NoStory rfl (by decide)) (by rfl)) (by decide) (by decide) (by rfl) (by rfl)) (@AC _ _ _ _ _ _ _ _ _ (Bp K) rfl T.b_isinstance boot_isinstance (@Al _ _ _ _ _ (@cx _ 0 _ _ (by rfl)) (@A1 _ _ (.ref (ds.getD 2 0)) _ _ rfl C.c_NoFiring rfl (by decide)) (by rfl)) (by decide) (by decide) (by rfl) (by rfl)) (@AC _ _ _ _ _ _ _ _ _ (Bp K) rfl T.b_isinstance boot_isinstance (@Al _ _ _ _ _ (@cx _ 0 _ _ (by rfl)) (@A1 _ _ (.ref (ds.getD 3 0)) _ _ rfl C.c_NoHour rfl (by decide)) (by rfl)) (by decide) (by decide) (by rfl) (by rfl)) (by rfl))) (by rfl) (Az (by rfl))) (@Aj _ _ _ _ _ (@AB _ _ (1) _ _ _ _ sc__law_which.nd rfl (Ay (by rfl)) (@As _ _ _ _ _ _ _ _ (@DS _) (@cx _ 1 _ _ (by rfl)) (@Bi _ _ _ _ (@A4 _ _ _ _ _ _ _ _ _ (@AC _ _ _ _ _ _ _ _ _ (Bp K) rfl T.b_isinstance boot_isinstance (@Al _ _ _ _ _ (@cx _ 0 _ _ (by rfl)) (@A1 _ _ (.ref (ds.getD 4 0)) _ _ rfl C.c_NoBoiler rfl (by decide)) (by rfl)) (by decide) (by decide) (by rfl) (by rfl)) (@AC _ _ _ _ _ _ _ _ _ (Bp K) rfl T.b_isinstance boot_isinstance (@Al _ _ _ _ _ (@cx _ 0 _ _ (by rfl)) (@A1 _ _ (.ref (ds.getD 5 0)) _ _ rfl C.c_NoPrices rfl (by decide)) (by rfl)) (by decide) (by decide) (by rfl) (by rfl)) (@AC _ _ _ _ _ _ _ _ _ (Bp K) rfl T.b_isinstance boot_isinstance (@Al _ _ _ _ _ (@cx _ 0 _ _ (by rfl)) (@A1 _ _ (.ref (ds.getD 6 0)) _ _ rfl C.c_NoWay rfl (by decide)) (by rfl)) (by decide) (by decide) (by rfl) (by rfl)) (@AC _ _ _ _ _ _ _ _ _ (Bp K) rfl T.b_isinstance boot_isinstance (@Al _ _ _ _ _ (@cx _ 0 _ _ (by rfl)) (@A1 _ _ (.ref (ds.getD 7 0)) _ _ rfl C.c_NoSet rfl (by decide)) (by rfl)) (by decide) (by decide) (by rfl) (by rfl)) (by rfl)))) (by rfl) (Az (by rfl))) (@Aj _ _ _ _ _ (@AB _ _ (1) _ _ _ _ sc__law_which.nd rfl (Ay (by rfl)) (@As _ _ _ _ _ _ _ _ (@DS _) (@cx _ 1 _ _ (by rfl)) (@Bi _ _ _ _ (@A4 _ _ _ _ _ _ _ _ _ (@AC _ _ _ _ _ _ _ _ _ (Bp K) rfl T.b_isinstance boot_isinstance (@Al _ _ _ _ _ (@cx _ 0 _ _ (by rfl)) (@A1 _ _ (.ref (ds.getD 8 0)) _ _ rfl C.c_NoTanks rfl (by decide)) (by rfl)) (by decide) (by decide) (by rfl) (by rfl)) (@AC _ _ _ _ _ _ _ _ _ (Bp K) rfl T.b_isinstance boot_isinstance (@Al _ _ _ _ _ (@cx _ 0 _ _ (by rfl)) (@A1 _ _ (.ref (ds.getD 9 0)) _ _ rfl C.c_NoPump rfl (by decide)) (by rfl)) (by decide) (by decide) (by rfl) (by rfl)) (@AC _ _ _ _ _ _ _ _ _ (Bp K) rfl T.b_isinstance boot_isinstance (@Al _ _ _ _ _ (@cx _ 0 _ _ (by rfl)) (@A1 _ _ (.ref (ds.getD 10 0)) _ _ rfl C.c_NoFeeding rfl (by decide)) (by rfl)) (by decide) (by decide) (by rfl) (by rfl)) (@AC _ _ _ _ _ _ _ _ _ (Bp K) rfl T.b_isinstance boot_isinstance (@Al _ _ _ _ _ (@cx _ 0 _ _ (by rfl)) (@A1 _ _ (.ref (ds.getD 11 0)) _ _ rfl C.c_NoReadings rfl (by decide)) (by rfl)) (by decide) (by decide) (by rfl) (by rfl)) (by rfl)))) (by rfl) (Az (by rfl))) (@Aj _ _ _ _ _ (@AB _ _ (1) _ _ _ _ sc__law_which.nd rfl (Ay (by rfl)) (@As _ _ _ _ _ _ _ _ (@DS _) (@cx _ 1 _ _ (by rfl)) (@Bi _ _ _ _ (@A4 _ _ _ _ _ _ _ _ _ (@AC _ _ _ _ _ _ _ _ _ (Bp K) rfl T.b_isinstance boot_isinstance (@Al _ _ _ _ _ (@cx _ 0 _ _ (by rfl)) (@A1 _ _ (.ref (ds.getD 12 0)) _ _ rfl C.c_NoStart rfl (by decide)) (by rfl)) (by decide) (by decide) (by rfl) (by rfl)) (@AC _ _ _ _ _ _ _ _ _ (Bp K) rfl T.b_isinstance boot_isinstance (@Al _ _ _ _ _ (@cx _ 0 _ _ (by rfl)) (@A1 _ _ (.ref (ds.getD 13 0)) _ _ rfl C.c_NoShifts rfl (by decide)) (by rfl)) (by decide) (by decide) (by rfl) (by rfl)) (@AC _ _ _ _ _ _ _ _ _ (Bp K) rfl T.b_isinstance boot_isinstance (@Al _ _ _ _ _ (@cx _ 0 _ _ (by rfl)) (@A1 _ _ (.ref (ds.getD 14 0)) _ _ rfl C.c_NoBook rfl (by decide)) (by rfl)) (by decide) (by decide) (by rfl) (by rfl)) (@AC _ _ _ _ _ _ _ _ _ (Bp K) rfl T.b_isinstance boot_isinstance (@Al _ _ _ _ _ (@cx _ 0 _ _ (by rfl)) (@A1 _ _ (.ref (ds.getD 15 0)) _ _ rfl C.c_NoAmount rfl (by decide)) (by rfl)) (by decide) (by decide) (by rfl) (by rfl)) (by rfl)))) (by rfl) (Az (by rfl))) (@Aj _ _ _ _ _ (@AB _ _ (1) _ _ _ _ sc__law_which.nd rfl (Ay (by rfl)) (@As _ _ _ _ _ _ _ _ (@DS _) (@cx _ 1 _ _ (by rfl)) (@Bi _ _ _ _ (@AA _ _ _ _ _ _ _ (@AC _ _ _ _ _ _ _ _ _ (Bp K) rfl T.b_isinstance boot_isinstance (@Al _ _ _ _ _ (@cx _ 0 _ _ (by rfl)) (@A1 _ _ (.ref (ds.getD 16 0)) _ _ rfl C.c_NoDeed rfl (by decide)) (by rfl)) (by decide) (by decide) (by rfl) (by rfl)) (@AC _ _ _ _ _ _ _ _ _ (Bp K) rfl T.b_isinstance boot_isinstance (@Al _ _ _ _ _ (@cx _ 0 _ _ (by rfl)) (@A1 _ _ (.ref (ds.getD 17 0)) _ _ rfl C.c_NoLine rfl (by decide)) (by rfl)) (by decide) (by decide) (by rfl) (by rfl)) (@AC _ _ _ _ _ _ _ _ _ (Bp K) rfl T.b_isinstance boot_isinstance (@Al _ _ _ _ _ (@cx _ 0 _ _ (by rfl)) (@A1 _ _ (.ref (ds.getD 18 0)) _ _ rfl C.c_NoText rfl (by decide)) (by rfl)) (by decide) (by decide) (by rfl) (by rfl)) (by rfl)))) (by rfl) (Az (by rfl))) (@Aj _ _ _ _ _ (@A8 _ _ _ _ _ _ _ _ (@PW.pt _ _ _ (@JE _ _ _ _ _ _ _ (@A7 _ _ _ _ _ _ _ _ (@IR _) (@J9 K _ _ _ _ _ _ _ _ _ _ _ _ PySem.F.plainAttrs_list PySem.F.slot_list_count PySem.F.type_list_count OI (@cx _ 1 _ _ (by rfl)) (@Ak _ _ _ (@BH _ _ _ _) (by rfl)) (by rfl) (by rfl) (by rfl) (by rfl) (by rfl) (by rfl)) (@Ae _ _ _ _) (A6 _)) (@Iz _ _ _ _ (@Cr _ _ _ _ (@BV _ _ _ (@AC _ _ _ _ _ _ _ _ _ (Bp K) rfl T.b_isinstance boot_isinstance (@Al _ _ _ _ _ (@cx _ 0 _ _ (by rfl)) (@E3 _ _ (.ty "ValueError") _ _ rfl T.b_ValueError PyProof.Rows.Boot.«ValueError» rfl (by decide) (by decide)) (by rfl)) (by decide) (by decide) (by rfl) (by rfl)) (by intro _; rfl)))))) (@Ao _ _ _ (@Au _ _ _ _ (@A9 _ _ _ _ _ (@Ak _ _ _ (@AK _ _ _ _) (by rfl))))) (@A5 _)) (@Aj _ _ _ _ _ (@AB _ _ (2) _ _ _ _ sc__law_which.nd rfl (Ay (by rfl)) (@Bi _ _ _ _ (@Bg _ _ _ _ _ (@AK _ _ _ _) (@Bg _ _ _ _ _ (@AK _ _ _ _) (@Bg _ _ _ _ _ (@AK _ _ _ _) (@Bg _ _ _ _ _ (@AK _ _ _ _) (@Bg _ _ _ _ _ (@AK _ _ _ _) (@Bg _ _ _ _ _ (@AK _ _ _ _) (@Bg _ _ _ _ _ (@AK _ _ _ _) (@A4 _ _ _ _ _ _ _ _ _ (@AK _ _ _ _) (@AK _ _ _ _) (@AK _ _ _ _) (@AK _ _ _ _) (by rfl)) (by rfl)) (by rfl)) (by rfl)) (by rfl)) (by rfl)) (by rfl)) (by rfl))) (by rfl) (Az (by rfl))) (@Aj _ _ _ _ _ (@AB _ _ (2) _ _ _ _ sc__law_which.nd rfl (Ay (by rfl)) (@As _ _ _ _ _ _ _ _ (@DS _) (@cx _ 2 _ _ (by rfl)) (@Bi _ _ _ _ (@Bg _ _ _ _ _ (@AK _ _ _ _) (@Bg _ _ _ _ _ (@AK _ _ _ _) (@Bg _ _ _ _ _ (@AK _ _ _ _) (@Bg _ _ _ _ _ (@AK _ _ _ _) (@A4 _ _ _ _ _ _ _ _ _ (@AK _ _ _ _) (@AK _ _ _ _) (@AK _ _ _ _) (@AK _ _ _ _) (by rfl)) (by rfl)) (by rfl)) (by rfl)) (by rfl)))) (by rfl) (Az (by rfl))) (@Ao _ _ _ (@Au _ _ _ _ (@A9 _ _ _ _ _ (@Ak _ _ _ (@AD _ _ _ _ _ _ _ (@Bz _ K (by rfl)) (@cx _ 2 _ _ (by rfl)) (@J9 K _ _ _ _ _ _ _ _ _ _ _ _ PySem.F.plainAttrs_list PySem.F.slot_list_index PySem.F.type_list_index OJ (@cx _ 1 _ _ (by rfl)) (@Ak _ _ _ (@BH _ _ _ _) (by rfl)) (by rfl) (by rfl) (by rfl) (by rfl) (by rfl) (by rfl)) (fun _ _ => rfl)) (by rfl))))))))))))),?_⟩
 unfold D7 at h
 split at h
 ·rename_i e
  obtain ⟨C0,word,he,hw,q⟩ := h
  obtain ⟨i,hi,rfl,hwd,hok⟩ := hw.ex
  obtain ⟨O,_,kj,kV⟩ := Kf hok
  have kk : ∀ j,j < 19 -> ∀ u,Aw (.ref (ds.getD j 0)) u -> PySem.W.kitOne K (.ref (ds.getD i 0)) u = some (j == i) := fun j hj u r => by
   cases (show u = Value.ref _ from r)
   exact kj j hj
  have kv : ∀ u,Aw (.ty "ValueError") u -> PySem.W.kitOne K (.ref (ds.getD i 0)) u = some true := fun u r => by
   cases (show u = Value.type _ from r)
   exact kV
  refine ⟨e,_,_,_,rfl,he,O,kk 0 (by decide),⟨e,_,_,_,rfl,he,O,kk 1 (by decide),⟨e,_,_,_,rfl,he,O,kk 2 (by decide),⟨e,_,_,_,rfl,he,O,kk 3 (by decide),?_⟩⟩⟩⟩
  intro p0 n0
  have S0 : Ab H (upd H p0 (.lst [.bl (0 == i),.bl (1 == i),.bl (2 == i),.bl (3 == i)])) := Ab.new n0
  have m0 : upd H p0 (.lst [.bl (0 == i),.bl (1 == i),.bl (2 == i),.bl (3 == i)]) p0 = some (.lst ([0 == i,1 == i,2 == i,3 == i].map V.bl)) := Ai
  revert S0 m0
  generalize upd H p0 (.lst [.bl (0 == i),.bl (1 == i),.bl (2 == i),.bl (3 == i)]) = G0
  intro S0 m0
  have e0 := S0 e _ he
  refine ⟨e,_,_,_,rfl,e0,O,kk 4 (by decide),⟨e,_,_,_,rfl,e0,O,kk 5 (by decide),⟨e,_,_,_,rfl,e0,O,kk 6 (by decide),⟨e,_,_,_,rfl,e0,O,kk 7 (by decide),?_⟩⟩⟩⟩
  intro q1 k1
  have ne1 : p0 ≠ q1 := fun z => by rw [z,k1] at m0; cases m0
  refine ⟨p0,q1,_,_,rfl,rfl,(Ap ne1).trans m0,Ai,Bl rfl,fun p1 n1 => ?_⟩
  have T1 : Ab G0 (upd G0 q1 (.lst [.bl (4 == i),.bl (5 == i),.bl (6 == i),.bl (7 == i)])) := Ab.new k1
  have S1 : Ab H (upd (upd G0 q1 (.lst [.bl (4 == i),.bl (5 == i),.bl (6 == i),.bl (7 == i)])) p1 (.lst (([0 == i,1 == i,2 == i,3 == i].map V.bl) ++ [.bl (4 == i),.bl (5 == i),.bl (6 == i),.bl (7 == i)]))) := (S0.trans T1).trans (Ab.new n1)
  have m1 : upd (upd G0 q1 (.lst [.bl (4 == i),.bl (5 == i),.bl (6 == i),.bl (7 == i)])) p1 (.lst (([0 == i,1 == i,2 == i,3 == i].map V.bl) ++ [.bl (4 == i),.bl (5 == i),.bl (6 == i),.bl (7 == i)])) p1 = some (.lst ([0 == i,1 == i,2 == i,3 == i,4 == i,5 == i,6 == i,7 == i].map V.bl)) := Ai
  revert S1 m1
  generalize upd (upd G0 q1 (.lst [.bl (4 == i),.bl (5 == i),.bl (6 == i),.bl (7 == i)])) p1 (.lst (([0 == i,1 == i,2 == i,3 == i].map V.bl) ++ [.bl (4 == i),.bl (5 == i),.bl (6 == i),.bl (7 == i)])) = G1
  intro S1 m1
  have e1 := S1 e _ he
  refine ⟨e,_,_,_,rfl,e1,O,kk 8 (by decide),⟨e,_,_,_,rfl,e1,O,kk 9 (by decide),⟨e,_,_,_,rfl,e1,O,kk 10 (by decide),⟨e,_,_,_,rfl,e1,O,kk 11 (by decide),?_⟩⟩⟩⟩
  intro q2 k2
  have ne2 : p1 ≠ q2 := fun z => by rw [z,k2] at m1; cases m1
  refine ⟨p1,q2,_,_,rfl,rfl,(Ap ne2).trans m1,Ai,Bl rfl,fun p2 n2 => ?_⟩
  have T2 : Ab G1 (upd G1 q2 (.lst [.bl (8 == i),.bl (9 == i),.bl (10 == i),.bl (11 == i)])) := Ab.new k2
  have S2 : Ab H (upd (upd G1 q2 (.lst [.bl (8 == i),.bl (9 == i),.bl (10 == i),.bl (11 == i)])) p2 (.lst (([0 == i,1 == i,2 == i,3 == i,4 == i,5 == i,6 == i,7 == i].map V.bl) ++ [.bl (8 == i),.bl (9 == i),.bl (10 == i),.bl (11 == i)]))) := (S1.trans T2).trans (Ab.new n2)
  have m2 : upd (upd G1 q2 (.lst [.bl (8 == i),.bl (9 == i),.bl (10 == i),.bl (11 == i)])) p2 (.lst (([0 == i,1 == i,2 == i,3 == i,4 == i,5 == i,6 == i,7 == i].map V.bl) ++ [.bl (8 == i),.bl (9 == i),.bl (10 == i),.bl (11 == i)])) p2 = some (.lst ([0 == i,1 == i,2 == i,3 == i,4 == i,5 == i,6 == i,7 == i,8 == i,9 == i,10 == i,11 == i].map V.bl)) := Ai
  revert S2 m2
  generalize upd (upd G1 q2 (.lst [.bl (8 == i),.bl (9 == i),.bl (10 == i),.bl (11 == i)])) p2 (.lst (([0 == i,1 == i,2 == i,3 == i,4 == i,5 == i,6 == i,7 == i].map V.bl) ++ [.bl (8 == i),.bl (9 == i),.bl (10 == i),.bl (11 == i)])) = G2
  intro S2 m2
  have e2 := S2 e _ he
  refine ⟨e,_,_,_,rfl,e2,O,kk 12 (by decide),⟨e,_,_,_,rfl,e2,O,kk 13 (by decide),⟨e,_,_,_,rfl,e2,O,kk 14 (by decide),⟨e,_,_,_,rfl,e2,O,kk 15 (by decide),?_⟩⟩⟩⟩
  intro q3 k3
  have ne3 : p2 ≠ q3 := fun z => by rw [z,k3] at m2; cases m2
  refine ⟨p2,q3,_,_,rfl,rfl,(Ap ne3).trans m2,Ai,Bl rfl,fun p3 n3 => ?_⟩
  have T3 : Ab G2 (upd G2 q3 (.lst [.bl (12 == i),.bl (13 == i),.bl (14 == i),.bl (15 == i)])) := Ab.new k3
  have S3 : Ab H (upd (upd G2 q3 (.lst [.bl (12 == i),.bl (13 == i),.bl (14 == i),.bl (15 == i)])) p3 (.lst (([0 == i,1 == i,2 == i,3 == i,4 == i,5 == i,6 == i,7 == i,8 == i,9 == i,10 == i,11 == i].map V.bl) ++ [.bl (12 == i),.bl (13 == i),.bl (14 == i),.bl (15 == i)]))) := (S2.trans T3).trans (Ab.new n3)
  have m3 : upd (upd G2 q3 (.lst [.bl (12 == i),.bl (13 == i),.bl (14 == i),.bl (15 == i)])) p3 (.lst (([0 == i,1 == i,2 == i,3 == i,4 == i,5 == i,6 == i,7 == i,8 == i,9 == i,10 == i,11 == i].map V.bl) ++ [.bl (12 == i),.bl (13 == i),.bl (14 == i),.bl (15 == i)])) p3 = some (.lst ([0 == i,1 == i,2 == i,3 == i,4 == i,5 == i,6 == i,7 == i,8 == i,9 == i,10 == i,11 == i,12 == i,13 == i,14 == i,15 == i].map V.bl)) := Ai
  revert S3 m3
  generalize upd (upd G2 q3 (.lst [.bl (12 == i),.bl (13 == i),.bl (14 == i),.bl (15 == i)])) p3 (.lst (([0 == i,1 == i,2 == i,3 == i,4 == i,5 == i,6 == i,7 == i,8 == i,9 == i,10 == i,11 == i].map V.bl) ++ [.bl (12 == i),.bl (13 == i),.bl (14 == i),.bl (15 == i)])) = G3
  intro S3 m3
  have e3 := S3 e _ he
  refine ⟨e,_,_,_,rfl,e3,O,kk 16 (by decide),⟨e,_,_,_,rfl,e3,O,kk 17 (by decide),⟨e,_,_,_,rfl,e3,O,kk 18 (by decide),?_⟩⟩⟩
  intro q4 k4
  have ne4 : p3 ≠ q4 := fun z => by rw [z,k4] at m3; cases m3
  refine ⟨p3,q4,_,_,rfl,rfl,(Ap ne4).trans m3,Ai,Bl rfl,fun p4 n4 => ?_⟩
  have T4 : Ab G3 (upd G3 q4 (.lst [.bl (16 == i),.bl (17 == i),.bl (18 == i)])) := Ab.new k4
  have S4 : Ab H (upd (upd G3 q4 (.lst [.bl (16 == i),.bl (17 == i),.bl (18 == i)])) p4 (.lst (([0 == i,1 == i,2 == i,3 == i,4 == i,5 == i,6 == i,7 == i,8 == i,9 == i,10 == i,11 == i,12 == i,13 == i,14 == i,15 == i].map V.bl) ++ [.bl (16 == i),.bl (17 == i),.bl (18 == i)]))) := (S3.trans T4).trans (Ab.new n4)
  have m4 : upd (upd G3 q4 (.lst [.bl (16 == i),.bl (17 == i),.bl (18 == i)])) p4 (.lst (([0 == i,1 == i,2 == i,3 == i,4 == i,5 == i,6 == i,7 == i,8 == i,9 == i,10 == i,11 == i,12 == i,13 == i,14 == i,15 == i].map V.bl) ++ [.bl (16 == i),.bl (17 == i),.bl (18 == i)])) p4 = some (.lst ([0 == i,1 == i,2 == i,3 == i,4 == i,5 == i,6 == i,7 == i,8 == i,9 == i,10 == i,11 == i,12 == i,13 == i,14 == i,15 == i,16 == i,17 == i,18 == i].map V.bl)) := Ai
  revert S4 m4
  generalize upd (upd G3 q4 (.lst [.bl (16 == i),.bl (17 == i),.bl (18 == i)])) p4 (.lst (([0 == i,1 == i,2 == i,3 == i,4 == i,5 == i,6 == i,7 == i,8 == i,9 == i,10 == i,11 == i,12 == i,13 == i,14 == i,15 == i].map V.bl) ++ [.bl (16 == i),.bl (17 == i),.bl (18 == i)])) = G4
  intro S4 m4
  have e4 := S4 e _ he
  have cnt : ([0 == i,1 == i,2 == i,3 == i,4 == i,5 == i,6 == i,7 == i,8 == i,9 == i,10 == i,11 == i,12 == i,13 == i,14 == i,15 == i,16 == i,17 == i,18 == i] : List Bool).count true = 1 := (by decide : ∀ i,i < 19 -> ([0 == i,1 == i,2 == i,3 == i,4 == i,5 == i,6 == i,7 == i,8 == i,9 == i,10 == i,11 == i,12 == i,13 == i,14 == i,15 == i,16 == i,17 == i,18 == i] : List Bool).count true = 1) i hi
  refine ⟨.inl ⟨rfl,_,Am.of m4⟩,⟨p4,_,rfl,rfl,m4,?_⟩⟩
  rw [cnt]
  refine ⟨rfl,⟨fun c => ?_,fun _ => ?_⟩⟩
  ·exact absurd c (by decide)
  refine ⟨e,_,_,_,rfl,e4,O,kv,⟨fun c => ?_,fun _ => ?_⟩⟩
  ·cases c
  intro w0 u0
  have Sw : Ab G4 (upd G4 w0 (.lst ((theWords.take 11).map V.str))) := Ab.new u0
  have mw : upd G4 w0 (.lst ((theWords.take 11).map V.str)) w0 = some (.lst ((theWords.take 11).map V.str)) := Ai
  revert Sw mw
  generalize hg : upd G4 w0 (.lst ((theWords.take 11).map V.str)) = G5
  intro Sw mw
  have hg' : (upd G4 w0 (.lst [.str "plant",.str "story",.str "firing",.str "hour",.str "boiler",.str "prices",.str "way",.str "set",.str "tanks",.str "pump",.str "feeding"])) = G5 := hg
  rw [hg']
  intro w1 u1
  have nw : w0 ≠ w1 := fun z => by rw [z,u1] at mw; cases mw
  refine ⟨w0,w1,_,_,rfl,rfl,(Ap nw).trans mw,Ai,Bl rfl,fun w2 u2 => ?_⟩
  have S6 : Ab G5 (upd (upd G5 w1 (.lst ((theWords.drop 11).map V.str))) w2 (.lst (theWords.map V.str))) := (Ab.new u1).trans (Ab.new u2)
  have m6 : upd (upd G5 w1 (.lst ((theWords.drop 11).map V.str))) w2 (.lst (theWords.map V.str)) w2 = some (.lst (theWords.map V.str)) := Ai
  revert S6 m6
  generalize hg6 : upd (upd G5 w1 (.lst ((theWords.drop 11).map V.str))) w2 (.lst (theWords.map V.str)) = G6
  intro S6 m6
  have m7 := S6 p4 _ (Sw p4 _ m4)
  have hb1 : ([0 == i,1 == i,2 == i,3 == i,4 == i,5 == i,6 == i,7 == i,8 == i,9 == i,10 == i,11 == i,12 == i,13 == i,14 == i,15 == i,16 == i,17 == i,18 == i] : List Bool)[i]? = some true := (by decide : ∀ i,i < 19 -> ([0 == i,1 == i,2 == i,3 == i,4 == i,5 == i,6 == i,7 == i,8 == i,9 == i,10 == i,11 == i,12 == i,13 == i,14 == i,15 == i,16 == i,17 == i,18 == i] : List Bool)[i]? = some true) i hi
  have hb2 : ∀ m,m < i -> ([0 == i,1 == i,2 == i,3 == i,4 == i,5 == i,6 == i,7 == i,8 == i,9 == i,10 == i,11 == i,12 == i,13 == i,14 == i,15 == i,16 == i,17 == i,18 == i] : List Bool)[m]? = some false := fun m hm => (by decide : ∀ i,i < 19 -> ∀ m,m < i -> ([0 == i,1 == i,2 == i,3 == i,4 == i,5 == i,6 == i,7 == i,8 == i,9 == i,10 == i,11 == i,12 == i,13 == i,14 == i,15 == i,16 == i,17 == i,18 == i] : List Bool)[m]? = some false) i hi m hm
  have hat : Ce (theWords.map V.str) (i : Int) = some (.str word) := by
   rw [Dv]
   rw [List.getElem?_map,hwd]
   rfl
  have fin : JF (B4 (Ez (GU K) (DX 2) (GX K "list" Ke (DX 1) (B4 (tC (V.bl true)) Dt))) Dt) [some (.ref e),some (.ref p4),some (.ref w2)] G6 Q := by
   refine ⟨.inl ⟨rfl,_,Am.of m7⟩,⟨p4,_,i,rfl,rfl,m7,Nat.le_of_ble_eq_true rfl,hb1,hb2,⟨w2,_,_,_,rfl,rfl,Am.of m6,hat,fun t ht => ?_⟩⟩⟩
   exact q _ t (((S4.trans Sw).trans S6).trans (Ab.new ht)) Ai
  rw [<- hg6] at fin
  exact fin
 ·exact h.elim
theorem QY : Ax ["_law_call","_law_e"] ["_law_call"] (Aq s__law_said) := AF
theorem QZ (F : Df K mg "_law_said" s__law_said ["_law_call"]) (C : Tc K mg M ds) (Dw : D8 P w K mg base 1 "_law_which" ["_law_e"] (D7 (Wd K M ds))) : FO P w K mg base 13 "_law_said" ["_law_call"] (DH P w K mg base 12 (Wd K M ds)) :=
 OB F QY rfl rfl rfl rfl rfl C.c_MainError C.mB C.mT (fun _ _ h => h.mro) Dw (by decide)
abbrev Ik (d : PyData) : Bool := FM d ["out","scaled"]
def BT (n h : Int) (d : PyData) : Bool := AQ d 4 4 && (match d with | .tuple [b,w,f,l] => AN b 0 (n - 1) && Ik w && AN l 0 (h - 1) && (match l with | .int i => AN f 0 i | _ => false) | _ => false)
def Il (d : PyData) : Prop := ∀ b w f l,d = .tuple [b,w,f,l] -> ∀ kvs,w ≠ .dict kvs
def Eo (d : PyData) : Prop := ∀ x gs,d = .tuple [x,.tuple gs] -> ∀ y ∈ gs,Il y
def Ck (n : Int) (d : PyData) : Bool := AQ d 2 2 && (match d with | .tuple [ex,fs] => AQ ex 1 8 && (match ex with | .tuple es => (es.all fun e => AN e 0 20) && AQ fs 0 4 && (match fs with | .tuple gs => gs.all (BT n (es.length : Int)) | _ => false) | _ => false) | _ => false)
theorem EX {e : PyData} {lo hi : Int} (h : AN e lo hi = true) : ∃ i,e = .int i /\ lo <= i /\ i <= hi := by
 cases e with
 | int i =>
  unfold AN at h
  obtain ⟨a1,a2⟩ := Bool.and_eq_true_iff.mp h
  exact ⟨i,rfl,of_decide_eq_true a1,of_decide_eq_true a2⟩
 | _ => cases h
theorem Q0 {d : PyData} (h : d.hasDict = false) : Il d := fun b w f l e kvs z => by
 rw [e,z] at h
 unfold PyData.hasDict PyData.hasDictAll PyData.hasDictAll at h
 simp [PyData.hasDict] at h
theorem Im : ∀ {gs : List PyData},PyData.hasDictAll gs = false -> ∀ y ∈ gs,y.hasDict = false
 | [],_,y,hy => nomatch hy
 | a :: gs,h,y,hy => by
  unfold PyData.hasDictAll at h
  obtain ⟨h1,h2⟩ := Bool.or_eq_false_iff.mp h
  rcases List.mem_cons.mp hy with rfl | hy
  ·exact h1
  ·exact Im h2 y hy
theorem Gz {d : PyData} (h : d.hasDict = false) : Eo d := fun x gs e y hy => by
 rw [e] at h
 have h' : PyData.hasDictAll [x,.tuple gs] = false := h
 have h2 := Im h' (.tuple gs) (by simp)
 exact Q0 (Im (gs := gs) h2 y hy)
def GB : Sp := fun vs H Q _ => match vs with | [v,.int n,.int h] => ∃ p d,Aa p H d v /\ Il d /\ ∀ b H',b = BT n h d -> Ab H H' -> Q (.bl b) H' | _ => False
def GC (ds : List Addr) : Sp := fun vs H Q E => match vs with | [v] => ∃ p d,Aa p H d v /\ (B9 d = false -> ∀ H',Ab H H' -> E (.ref (ds.getD 0 0)) none H') /\ (B9 d = true -> ∀ H',Ab H H' -> Q .non H') | _ => False
def GD (ds : List Addr) : Sp := fun vs H Q E => match vs with
 | [v,u] => (∃ p d,Aa p H d v /\ B9 d = false /\ ∀ H',Ab H H' -> E (.ref (ds.getD 0 0)) none H') \/ (∃ p P e,PL.ok P /\ Aa p H P.d v /\ Aa p H e u /\ Eo e /\ ∀ b H',b = Ck P.bs.length e -> Ab H H' -> Q (.bl b) H')
 | _ => False
def Io (ds : List Addr) : Sp := fun vs H _ E => match vs with
 | [v,u] => (∃ p d,Aa p H d v /\ B9 d = false /\ ∀ H',Ab H H' -> E (.ref (ds.getD 0 0)) none H') \/ (∃ p P e,PL.ok P /\ Aa p H P.d v /\ Aa p H e u /\ Eo e /\ Ck P.bs.length e = false /\ ∀ H',Ab H H' -> E (.ref (ds.getD 1 0)) none H')
 | _ => False
theorem Q1 (F : Df K mg "is_fault" s_is_fault ["thing","boilers","hours"]) (T : Tx mg) (D_is_tuple_of : C5 P w K mg base) (D_is_whole_from : Dh P w K mg base) : Fn P w K mg base 3 "is_fault" ["thing","boilers","hours"] GB := by
 refine F.fn sc_is_fault (fun vs H Q E h => ?_) (fun f cdv A outer s H vs Q E hr h => ?_)
 ·unfold GB at h; split at h; rfl; exact h.elim
 unfold GB at h
 split at h
 ·rename_i v n k
  obtain ⟨p,d,r,ft,q⟩ := h
  refine ⟨_,(@Aj _ _ _ _ _ (@A8 _ _ _ _ _ _ _ _ (@Cr _ _ _ _ (@BV _ _ _ (@An _ _ _ _ _ _ _ _ _ _ D_is_tuple_of (hr.mono (by decide)) rfl (@AA _ _ _ _ _ _ _ (@cx _ 0 _ _ (by rfl)) (@Ae _ _ _ _) (@Ae _ _ _ _) (by rfl)) (by decide) (by rfl) (by rfl)) (by intro _; rfl))) (@Ao _ _ _ (@Au _ _ _ _ (@BH _ _ _ _))) (@A5 _)) (@Aj _ _ _ _ _ (@Bb _ _ _ _ _ _ (@cx _ 0 _ _ (by rfl)) (@AI _ K _ _ _ (4) _ (@Ah _ _ _ _ _ (@Ag _ _ _ 3 sc_is_fault.nd (by rfl)) (@Ah _ _ _ _ _ (@Ag _ _ _ 4 sc_is_fault.nd (by rfl)) (@Ah _ _ _ _ _ (@Ag _ _ _ 5 sc_is_fault.nd (by rfl)) (@Ah _ _ _ _ _ (@Ag _ _ _ 6 sc_is_fault.nd (by rfl)) (@AH _) (by rfl)) (by rfl)) (by rfl)) (by rfl)) (by rfl) (by rfl) (by rfl) (by rfl)) (by rfl) (by rfl) (by rfl)) (@Ao _ _ _ (@Au _ _ _ _ (@By _ _ _ _ _ _ _ (@An _ _ _ _ _ _ _ _ _ _ D_is_whole_from (hr.mono (by decide)) rfl (@AA _ _ _ _ _ _ _ (@cx _ 3 _ _ (by rfl)) (@Ae _ _ _ _) (@As _ _ _ _ _ _ _ _ (@Bk _) (@cx _ 1 _ _ (by rfl)) (@Ae _ _ _ _)) (by rfl)) (by decide) (by rfl) (by rfl)) (@By _ _ _ _ _ _ _ (@DR _ _ _ _ _ _ _ _ (ON K hr) (@cx _ 4 _ _ (by rfl)) (@A9 _ _ _ _ _ (@Al _ _ _ _ _ (@AK _ _ _ _) (@AK _ _ _ _) (by rfl))) (by with_unfolding_all rfl)) (@By _ _ _ _ _ _ _ (@An _ _ _ _ _ _ _ _ _ _ D_is_whole_from (hr.mono (by decide)) rfl (@AA _ _ _ _ _ _ _ (@cx _ 6 _ _ (by rfl)) (@Ae _ _ _ _) (@As _ _ _ _ _ _ _ _ (@Bk _) (@cx _ 2 _ _ (by rfl)) (@Ae _ _ _ _)) (by rfl)) (by decide) (by rfl) (by rfl)) (@Cs _ _ _ _ _ (@An _ _ _ _ _ _ _ _ _ _ D_is_whole_from (hr.mono (by decide)) rfl (@AA _ _ _ _ _ _ _ (@cx _ 5 _ _ (by rfl)) (@Ae _ _ _ _) (@cx _ 6 _ _ (by rfl)) (by rfl)) (by decide) (by rfl) (by rfl)))))))))),?_⟩
  refine ⟨p,d,r,fun b hb => ⟨fun c => ?_,fun c => ?_⟩⟩
  ·have hf : AQ d 4 4 = false := by rw [<- hb]; simpa using c
   exact q _ _ (by unfold BT; rw [hf]; rfl) (Ab.refl _)
  ·have hf : AQ d 4 4 = true := by rw [<- hb]; simpa using c
   obtain ⟨es,rfl,g1,g2⟩ := Gn hf
   obtain ⟨x1,x2,x3,x4,rfl⟩ : ∃ a b c d,es = [a,b,c,d] := by
    match es,g1,g2 with
    | [a,b,c,d],_,_ => exact ⟨a,b,c,d,rfl⟩
    | [],h,_ => simp at h
    | [_],h,_ => simp at h
    | [_,_],h,_ => simp at h
    | [_,_,_],h,_ => simp at h
    | _ :: _ :: _ :: _ :: _ :: _,_,h => simp at h; omega
   obtain ⟨l,xs,rfl,hl,rs⟩ := Aa.shape r
   obtain ⟨y1,y2,y3,y4,rfl,r1,r2,r3,r4⟩ := Ad.four rs
   refine ⟨l,_,rfl,Af.of hl,rfl,_,_,rfl,_,_,rfl,_,_,rfl,_,_,rfl,rfl,p,x1,r1,fun b1 e1 => ⟨fun c1 => ?_,fun c1 => ?_⟩⟩
   ·refine fun t ht => ⟨p,t,["out","scaled"],x2,rfl,Af.of Ai,Aa.ev (Ev.same (Ab.new ht)) _ _ r2,ft _ _ _ _ rfl,⟨fun c2 => ?_,fun c2 => ?_⟩⟩
    ·have cw : Ik x2 = true := c2
     refine ⟨p,x4,Aa.ev (Ev.same (Ab.new ht)) _ _ r4,fun b2 e2 => ⟨fun c3 => ?_,fun c3 => ?_⟩⟩
     ·have hw4 : AN x4 0 (k - 1) = true := by rw [<- e2]; exact c3
      obtain ⟨i,rfl,i0,i1⟩ := EX hw4
      have ey : y4 = .int i := by unfold Aa at r4; exact r4
      subst ey
      refine ⟨p,x3,Aa.ev (Ev.same (Ab.new ht)) _ _ r3,fun b3 e3 => q _ _ ?_ (Ab.new ht)⟩
      unfold BT
      rw [hf]
      dsimp only
      rw [<- e1,c1,cw,hw4,e3]; rfl
     ·refine q _ _ ?_ (Ab.new ht)
      have hw4 : AN x4 0 (k - 1) = false := by rw [<- e2]; exact c3
      unfold BT
      rw [hf]
      dsimp only
      rw [hw4,Bool.and_false,Bool.false_and,Bool.and_false]
    ·refine q _ _ ?_ (Ab.new ht)
     have cw : Ik x2 = false := c2
     unfold BT
     rw [hf]
     dsimp only
     rw [cw,Bool.and_false,Bool.false_and,Bool.false_and,Bool.and_false]
   ·refine q _ _ ?_ (Ab.refl _)
    have cw : AN x1 0 (n - 1) = false := by rw [<- e1]; exact c1
    unfold BT
    rw [hf]
    dsimp only
    rw [cw,Bool.false_and,Bool.false_and,Bool.false_and,Bool.and_false]
 ·exact h.elim
theorem Q2 (F : Df K mg "need_plant" s_need_plant ["plant"]) (T : Tx mg) (C : Tc K mg M ds) (D_is_plant : Fn P w K mg base 5 "is_plant" ["thing"] Ga) : AZ P w K mg base 6 "need_plant" ["plant"] (GC ds) := by
 refine F.fnE Qn (fun vs H Q E h => ?_) (fun f cdv A outer s H vs Q E hr h => ?_)
 ·unfold GC at h; split at h; rfl; exact h.elim
 unfold GC at h
 split at h
 ·rename_i v
  obtain ⟨p,d,r,q1,q2⟩ := h
  refine ⟨_,(@Ao _ _ _ (@A8 _ _ _ _ _ _ _ _ (@Cr _ _ _ _ (@BV _ _ _ (@An _ _ _ _ _ _ _ _ _ _ D_is_plant (hr.mono (by decide)) rfl (@Ak _ _ _ (@cx _ 0 _ _ (by rfl)) (by rfl)) (by decide) (by rfl) (by rfl)) (by intro _; rfl))) (@Ao _ _ _ (EM Bc rfl C.n_NoPlant C.x_NoPlant rfl (@Ak _ _ _ (@AK _ _ _ _) (by rfl)))) (@A5 _))),?_⟩
  refine ⟨p,d,r,fun b H1 hb s1 => ⟨fun c => ?_,fun c => ?_⟩⟩
  ·exact ⟨Bl rfl,q1 (by rw [<- hb]; simpa using c) _ s1⟩
  ·exact q2 (by rw [<- hb]; simpa using c) _ s1
 ·exact h.elim
theorem Q3 (F : Df K mg "is_story" s_is_story ["plant","thing"]) (T : Tx mg) (D_is_fault : Fn P w K mg base 3 "is_fault" ["thing","boilers","hours"] GB) (D_is_tuple_of : C5 P w K mg base) (D_is_whole_from : Dh P w K mg base) (DE_need_plant : AZ P w K mg base 6 "need_plant" ["plant"] (GC ds)) : AZ P w K mg base 7 "is_story" ["plant","thing"] (GD ds) := by
 obtain ⟨t_MOST_EXTRA,g_MOST_EXTRA⟩ := T.g_MOST_EXTRA
 obtain ⟨t_MOST_FAULTS,g_MOST_FAULTS⟩ := T.g_MOST_FAULTS
 obtain ⟨t_MOST_HOURS,g_MOST_HOURS⟩ := T.g_MOST_HOURS
 refine F.fnE sc_is_story (fun vs H Q E h => ?_) (fun f cdv A outer s H vs Q E hr h => ?_)
 ·unfold GD at h; split at h; rfl; exact h.elim
 unfold GD at h
 split at h
 ·rename_i v u
  refine ⟨_,(@Aj _ _ _ _ _ (@Br _ _ _ _ (Ba Bc DE_need_plant (hr.mono (by decide)) rfl (@Ak _ _ _ (@cx _ 0 _ _ (by rfl)) (by rfl))) (by rfl)) (@Aj _ _ _ _ _ (@A8 _ _ _ _ _ _ _ _ (@Cr _ _ _ _ (@BV _ _ _ (@An _ _ _ _ _ _ _ _ _ _ D_is_tuple_of (hr.mono (by decide)) rfl (@AA _ _ _ _ _ _ _ (@cx _ 1 _ _ (by rfl)) (@Ae _ _ _ _) (@Ae _ _ _ _) (by rfl)) (by decide) (by rfl) (by rfl)) (by intro _; rfl))) (@Ao _ _ _ (@Au _ _ _ _ (@BH _ _ _ _))) (@A5 _)) (@Aj _ _ _ _ _ (@Bb _ _ _ _ _ _ (@cx _ 1 _ _ (by rfl)) (@AI _ K _ _ _ (2) _ (@Ah _ _ _ _ _ (@Ag _ _ _ 2 sc_is_story.nd (by rfl)) (@Ah _ _ _ _ _ (@Ag _ _ _ 3 sc_is_story.nd (by rfl)) (@AH _) (by rfl)) (by rfl)) (by rfl) (by rfl) (by rfl) (by rfl)) (by rfl) (by rfl) (by rfl)) (@Ao _ _ _ (@Au _ _ _ _ (@By _ _ _ _ _ _ _ (@An _ _ _ _ _ _ _ _ _ _ D_is_tuple_of (hr.mono (by decide)) rfl (@AA _ _ _ _ _ _ _ (@cx _ 2 _ _ (by rfl)) (@Ae _ _ _ _) (@A1 _ _ (.int 8) _ _ rfl g_MOST_HOURS ⟨t_MOST_HOURS,rfl⟩ (by decide)) (by rfl)) (by decide) (by rfl) (by rfl)) (@By _ _ _ _ _ _ _ (@AC _ _ _ _ _ _ _ _ _ (@Fu _ rfl) rfl T.b_all boot_all (@Ak _ _ _ (@BD _ _ _ _ _ _ _ _ _ _ _ ["units"] [none] rfl (@Cj _ K _ _ _ (@cx _ 2 _ _ (by rfl)) (by rfl)) (AM.of rfl) (fun _ _ _ _ => (@Ag _ _ _ 0 (AS (by rfl)) (by rfl))) (fun _ _ _ _ => (@Bw _)) (fun _ _ _ _ => (@An _ _ _ _ _ _ _ _ _ _ D_is_whole_from (hr.mono (by decide)) rfl (@AA _ _ _ _ _ _ _ (@cx _ 0 _ _ (by rfl)) (@Ae _ _ _ _) (@A1 _ _ (.int 20) _ _ rfl g_MOST_EXTRA ⟨t_MOST_EXTRA,rfl⟩ (by decide)) (by rfl)) (by decide) (by rfl) (by rfl))) (by intro _; rfl)) (by rfl)) (by decide) (by decide) (by rfl) (by rfl)) (@By _ _ _ _ _ _ _ (@An _ _ _ _ _ _ _ _ _ _ D_is_tuple_of (hr.mono (by decide)) rfl (@AA _ _ _ _ _ _ _ (@cx _ 3 _ _ (by rfl)) (@Ae _ _ _ _) (@A1 _ _ (.int 4) _ _ rfl g_MOST_FAULTS ⟨t_MOST_FAULTS,rfl⟩ (by decide)) (by rfl)) (by decide) (by rfl) (by rfl)) (@Cs _ _ _ _ _ (@AC _ _ _ _ _ _ _ _ _ (@Fu _ rfl) rfl T.b_all boot_all (@Ak _ _ _ (@BD _ _ _ _ _ _ _ _ _ _ _ ["part","extra","plant"] [none,some 2,some 0] rfl (@Cj _ K _ _ _ (@cx _ 3 _ _ (by rfl)) (by rfl)) (AM.of rfl) (fun _ _ _ _ => (@Ag _ _ _ 0 (AS (by rfl)) (by rfl))) (fun _ _ _ _ => (@Bw _)) (fun _ _ _ _ => (@An _ _ _ _ _ _ _ _ _ _ D_is_fault (hr.mono (by decide)) rfl (@AA _ _ _ _ _ _ _ (@cx _ 0 _ _ (by rfl)) (@AC _ _ _ _ _ _ _ _ _ (@BM _ K (by rfl)) rfl T.b_len PySem.boot_len (@Ak _ _ _ (@AD _ _ _ _ _ _ _ (@AT _ K (by rfl)) (@cx _ 2 _ _ (by rfl)) (@Ae _ _ _ _) (fun _ _ => rfl)) (by rfl)) (by decide) (by decide) (by rfl) (by rfl)) (@AC _ _ _ _ _ _ _ _ _ (@BM _ K (by rfl)) rfl T.b_len PySem.boot_len (@Ak _ _ _ (@cx _ 1 _ _ (by rfl)) (by rfl)) (by decide) (by decide) (by rfl) (by rfl)) (by rfl)) (by decide) (by rfl) (by rfl))) (by intro _; rfl)) (by rfl)) (by decide) (by decide) (by rfl) (by rfl))))))))))),?_⟩
  rcases h with ⟨p,d,r,hp,q⟩ | ⟨p,P,e,ok,r,ru,fsd,q⟩
  ·exact ⟨p,d,r,fun _ H' s' => q H' s',fun z => (by rw [hp] at z; cases z)⟩
  refine ⟨p,P.d,r,fun z => (by rw [Qm ok] at z; cases z),fun _ H1 s1 => ?_⟩
  have ru1 := Aa.ev (Ev.same (p := p) s1) _ _ ru
  refine ⟨p,e,ru1,fun b hb => ⟨fun c => ?_,fun c => ?_⟩⟩
  ·have hf : AQ e 2 2 = false := by rw [<- hb]; simpa using c
   exact q _ _ (by unfold Ck; rw [hf]; rfl) s1
  ·have hf : AQ e 2 2 = true := by rw [<- hb]; simpa using c
   obtain ⟨es0,rfl,g1,g2⟩ := Gn hf
   obtain ⟨ex,fs,rfl⟩ := two hf
   obtain ⟨A,xs0,rfl,hA,rs0⟩ := Aa.shape ru1
   obtain ⟨x,y,rfl,rx,ry⟩ := Ad.two rs0
   obtain ⟨PA,PB,PE,PM,xb,xe,rfl,pA,pB,rb,pE,re,pM⟩ := Aa.plant (Aa.ev (Ev.same s1) _ _ r)
   have lb := rb.len
   rw [List.length_map] at lb
   refine ⟨A,_,rfl,Af.of hA,rfl,_,_,rfl,_,_,rfl,rfl,p,ex,rx,fun b1 e1 => ⟨fun c1 => ?_,fun c1 => ?_⟩⟩
   ·have hx8 : AQ ex 1 8 = true := by rw [<- e1]; exact c1
    obtain ⟨es,rfl,h1,h8⟩ := Gn hx8
    obtain ⟨B,xs,rfl,hB,rs⟩ := Aa.shape rx
    have lx := rs.len
    refine ⟨B,rfl,⟨_,Af.of hB⟩,CA (xs := xs) (fun i ys H' => Ab H1 H' /\ ys = ((es.take i).map fun e => V.bl (AN e 0 20))) (by omega) ⟨Ab.refl _,rfl⟩ (fun i ys H' h => by rw [h.2,List.length_map,List.length_take]; omega) (fun i ys H' _ h => Af.of (h.1 _ _ hB)) (fun i x ys H' hx h => ?_) fun ys H' h => ?_⟩
    ·obtain ⟨e',he,re'⟩ := rs.got hx
     refine ⟨trivial,fun _ => ⟨p,e',Aa.ev (Ev.same h.1) _ _ re',fun b eb => ⟨h.1,?_⟩⟩,fun c => by cases c⟩
     rw [Bm he,List.map_append,h.2,eb]; rfl
    ·intro m hm
     have s2 : Ab H1 (upd H' m (.lst ys)) := h.1.trans (Ab.new hm)
     refine ⟨m,es.map fun e => AN e 0 20,rfl,by rw [Ai,h.2,List.take_of_length_le (by omega),List.map_map]; rfl,⟨fun c2 => ?_,fun c2 => ?_⟩⟩
     ·have hall : (es.all fun e => AN e 0 20) = true := by rw [List.all_map] at c2; exact c2
      refine ⟨p,fs,Aa.ev (Ev.same s2) _ _ ry,fun b2 e2 => ⟨fun c3 => ?_,fun c3 => ?_⟩⟩
      ·have hf4 : AQ fs 0 4 = true := by rw [<- e2]; exact c3
       obtain ⟨gs,rfl,f0,f4⟩ := Gn hf4
       obtain ⟨E',zs,rfl,hE,rz⟩ := Aa.shape ry
       have lz := rz.len
       refine ⟨E',rfl,⟨_,Af.of (s2 _ _ hE)⟩,CA (xs := zs) (fun i ys H' => Ab H1 H' /\ ys = ((gs.take i).map fun e => V.bl (BT P.bs.length es.length e))) (by omega) ⟨s2,rfl⟩ (fun i ys H' h => by rw [h.2,List.length_map,List.length_take]; omega) (fun i ys H' _ h => Af.of (h.1 _ _ hE)) (fun i x ys2 H2 hx h2 => ?_) fun ys2 H2 h2 => ?_⟩
       ·obtain ⟨e',he,re'⟩ := rz.got hx
        refine ⟨⟨rfl,rfl,trivial⟩,fun _ => ⟨PA,_,0,.ref PB,rfl,rfl,Af.of (h2.1 _ _ pA),rfl,PB,xb,rfl,.inr (Af.of (h2.1 _ _ pB)),B,_,rfl,.inr (Af.of (h2.1 _ _ hB)),p,e',Aa.ev (Ev.same h2.1) _ _ re',fsd _ _ rfl _ (List.mem_of_getElem? he),fun b H3 eb s3 => ⟨h2.1.trans s3,?_⟩⟩,fun c => by cases c⟩
        rw [Bm he,List.map_append,h2.2,eb,<- lb,<- lx]; rfl
       ·intro m2 hm2
        refine ⟨m2,gs.map fun e => BT P.bs.length es.length e,rfl,by rw [Ai,h2.2,List.take_of_length_le (by omega),List.map_map]; rfl,?_⟩
        refine q _ _ ?_ (s1.trans (h2.1.trans (Ab.new hm2)))
        unfold Ck
        rw [hf]
        dsimp only
        rw [hx8,hall,hf4,List.all_map]
        rfl
      ·have hf4 : AQ fs 0 4 = false := by rw [<- e2]; exact c3
       refine q _ _ ?_ (s1.trans s2)
       unfold Ck
       rw [hf]
       dsimp only
       rw [hf4,Bool.and_false,Bool.false_and,Bool.and_false,Bool.and_false]
     ·have hall : (es.all fun e => AN e 0 20) = false := by rw [List.all_map] at c2; exact c2
      refine q _ _ ?_ (s1.trans s2)
      unfold Ck
      rw [hf]
      dsimp only
      rw [hall,Bool.false_and,Bool.false_and,Bool.and_false,Bool.and_false]
   ·have hx8 : AQ ex 1 8 = false := by rw [<- e1]; exact c1
    refine q _ _ ?_ s1
    unfold Ck
    rw [hf]
    dsimp only
    rw [hx8,Bool.false_and,Bool.and_false]
 ·exact h.elim
theorem Q4 {S : SY} {n : Nat} (so : S.ok n) : Ck (n : Int) S.d = true := by
 have x1 := so.x1
 have x8 := so.x8
 have f4 := so.f4
 unfold Ck SY.d
 dsimp only
 rw [Em (by simp) (by simp),Em (by rw [List.length_map]; omega) (by rw [List.length_map]; omega),Em (by rw [List.length_map]; omega) (by rw [List.length_map]; omega)]
 rw [show ((S.ex.map PyData.int).all fun e => AN e 0 20) = true from by
  rw [List.all_map,List.all_eq_true]
  intro a ha
  obtain ⟨h1,h2⟩ := so.x a ha
  exact B1 h1 h2]
 rw [Bool.true_and,Bool.true_and,Bool.true_and,Bool.true_and,List.all_map,List.all_eq_true]
 intro x hx
 obtain ⟨o1,o2,o3,o4,o5⟩ := so.f x hx
 show BT _ _ x.d = true
 unfold BT
 dsimp only
 rw [Em (by simp) (by simp),B1 o1 (by omega),B1 (by omega) (by rw [List.length_map]; omega),B1 o3 o4]
 cases x.out <;> rfl
theorem Q5 {S : SY} : Eo S.d := fun x gs e y hy => by
 unfold SY.d at e
 injection e with e
 injection e with e1 e2
 injection e2 with e2 _
 injection e2 with e2
 rw [<- e2] at hy
 obtain ⟨z,_,rfl⟩ := List.mem_map.mp hy
 intro b w f l e kvs z'
 injection e with e
 injection e with _ e
 injection e with e _
 rw [<- e] at z'; cases z'
def BO (ds : List Addr) (good : Addr -> PL -> SY -> Hp -> VK -> Prop) : Sp := fun vs H Q E => match vs with | [v,u] => Io ds [v,u] H Q E \/ ∃ p P S,PL.ok P /\ SY.ok S P.bs.length /\ Aa p H P.d v /\ Aa p H S.d u /\ good p P S H Q | _ => False
def Ip : Addr -> PL -> SY -> Hp -> VK -> Prop := fun p P S H Q => ∀ H',Ab H H' -> Q .non H'
def KJ : Addr -> PL -> SY -> Hp -> VK -> Prop := fun p P S H Q => ret H Q p (JR P S)
def KK : Addr -> PL -> SY -> Hp -> VK -> Prop := fun p P S H Q => ret H Q p (HI P S)
def Q6 : Addr -> PL -> SY -> Hp -> VK -> Prop := fun p P S H Q => ret H Q p (terms P S).d
theorem Q7 (F : Df K mg "need_story" s_need_story ["plant","story"]) (T : Tx mg) (C : Tc K mg M ds) (DE_is_story : AZ P w K mg base 7 "is_story" ["plant","thing"] (GD ds)) : AZ P w K mg base 8 "need_story" ["plant","story"] (BO ds Ip) := by
 refine F.fnE Qo (fun vs H Q E h => ?_) (fun f cdv A outer s H vs Q E hr h => ?_)
 ·unfold BO at h; split at h; rfl; exact h.elim
 unfold BO at h
 split at h
 ·rename_i v u
  refine ⟨_,(@Ao _ _ _ (@A8 _ _ _ _ _ _ _ _ (@Cr _ _ _ _ (@BV _ _ _ (Ba Bc DE_is_story (hr.mono (by decide)) rfl (@Al _ _ _ _ _ (@cx _ 0 _ _ (by rfl)) (@cx _ 1 _ _ (by rfl)) (by rfl))) (by intro _; rfl))) (@Ao _ _ _ (EM Bc rfl C.n_NoStory C.x_NoStory rfl (@Ak _ _ _ (@AK _ _ _ _) (by rfl)))) (@A5 _))),?_⟩
  rcases h with h | ⟨p,P,S,ok,so,r,ru,q⟩
  ·unfold Io at h
   rcases h with ⟨p,d,r,hp,q⟩ | ⟨p,P,e,ok,r,ru,fsd,hs,q⟩
   ·exact .inl ⟨p,d,r,hp,q⟩
   ·exact .inr ⟨p,P,e,ok,r,ru,fsd,fun b H1 hb s1 => ⟨fun c => ⟨Bl rfl,q _ s1⟩,fun c => (by rw [hb,hs] at c; cases c)⟩⟩
  ·exact .inr ⟨p,P,S.d,ok,r,ru,Q5,fun b H1 hb s1 => ⟨fun c => (by rw [hb,Q4 so] at c; cases c),fun c => q _ s1⟩⟩
 ·exact h.elim
theorem Q8 (F : Df K mg "caps_of" s_caps_of ["plant","story"]) (T : Tx mg) (D_caps_in : Fn P w K mg base 2 "caps_in" ["boilers","faults","hour"] Gi) (DE_need_story : AZ P w K mg base 8 "need_story" ["plant","story"] (BO ds Ip)) : AZ P w K mg base 9 "caps_of" ["plant","story"] (BO ds KJ) := by
 refine F.fnE sc_caps_of (fun vs H Q E h => ?_) (fun f cdv A outer s H vs Q E hr h => ?_)
 ·unfold BO at h; split at h; rfl; exact h.elim
 unfold BO at h
 split at h
 ·rename_i v u
  refine ⟨_,(@Aj _ _ _ _ _ (@Br _ _ _ _ (Ba Bc DE_need_story (hr.mono (by decide)) rfl (@Al _ _ _ _ _ (@cx _ 0 _ _ (by rfl)) (@cx _ 1 _ _ (by rfl)) (by rfl))) (by rfl)) (@Aj _ _ _ _ _ (@Bb _ _ _ _ _ _ (@cx _ 1 _ _ (by rfl)) (@AI _ K _ _ _ (2) _ (@Ah _ _ _ _ _ (@Ag _ _ _ 2 sc_caps_of.nd (by rfl)) (@Ah _ _ _ _ _ (@Ag _ _ _ 3 sc_caps_of.nd (by rfl)) (@AH _) (by rfl)) (by rfl)) (by rfl) (by rfl) (by rfl) (by rfl)) (by rfl) (by rfl) (by rfl)) (@Ao _ _ _ (@Au _ _ _ _ (@BL _ _ _ _ _ _ _ _ _ (@CB _ K (by rfl)) rfl T.b_tuple Ci (@Ak _ _ _ (@BD _ _ _ _ _ _ _ _ _ _ _ ["hour","faults","plant"] [none,some 3,some 0] rfl (@C8 _ _ _ _ _ _ rfl T.b_range (@Ak _ _ _ (@AC _ _ _ _ _ _ _ _ _ (@BM _ K (by rfl)) rfl T.b_len PySem.boot_len (@Ak _ _ _ (@cx _ 2 _ _ (by rfl)) (by rfl)) (by decide) (by decide) (by rfl) (by rfl)) (by rfl)) (by rfl)) (AM.of rfl) (fun _ _ _ _ => (@Ag _ _ _ 0 (AS (by rfl)) (by rfl))) (fun _ _ _ _ => (@Bw _)) (fun _ _ _ _ => (@An _ _ _ _ _ _ _ _ _ _ D_caps_in (hr.mono (by decide)) rfl (@AA _ _ _ _ _ _ _ (@AD _ _ _ _ _ _ _ (@AT _ K (by rfl)) (@cx _ 2 _ _ (by rfl)) (@Ae _ _ _ _) (fun _ _ => rfl)) (@cx _ 1 _ _ (by rfl)) (@cx _ 0 _ _ (by rfl)) (by rfl)) (by decide) (by rfl) (by rfl))) (by intro _; rfl)) (by rfl)) (by decide) (by decide) (by rfl) (by rfl)))))),?_⟩
  rcases h with h | ⟨p,P,S,ok,so,r,ru,q⟩
  ·exact .inl h
  ·refine .inr ⟨p,P,S,ok,so,r,ru,fun H1 s1 => ?_⟩
   obtain ⟨A,B,E,xf,rfl,hA,hB,hE,rf⟩ := Aa.story (Aa.ev (Ev.same s1) _ _ ru)
   obtain ⟨PA,PB,PE,PM,xb,xe,rfl,pA,pB,rb,pE,re,pM⟩ := Aa.plant (Aa.ev (Ev.same s1) _ _ r)
   have x8 := so.x8
   have f4 := so.f4
   have b4 := ok.b4
   refine ⟨A,_,rfl,Af.of hA,rfl,_,_,rfl,_,_,rfl,rfl,B,_,rfl,.inr (Af.of hB),_,rfl,by omega,by rw [List.length_map]; omega,Jx (n := (S.ex.map V.int).length) (fun i ys H' => Ab H1 H' /\ Ad p H' (((caps P S).take i).map A3) ys) (by rw [List.length_map]; omega) ⟨Ab.refl _,.nil⟩ (fun i ys H' h => by rw [<- h.2.len,List.length_map,List.length_take]; omega) (fun i ys H' hi h => ?_) fun ys H' h => ?_⟩
   ·rw [List.length_map] at hi
    refine ⟨⟨rfl,rfl,trivial⟩,fun _ => ?_,fun z => by cases z⟩
    refine ⟨PA,_,0,.ref PB,rfl,rfl,Af.of (h.1 _ _ pA),rfl,p,P.bs,S.fs,Aa.tup (h.1 _ _ pB) (Ad.ev (Ev.same h.1) _ _ rb),Aa.tup (h.1 _ _ hE) (Ad.ev (Ev.same h.1) _ _ rf),by omega,by omega,fun v2 H2 s2 r2 => ⟨h.1.trans s2,?_⟩⟩
    rw [Int.zero_add] at r2
    rw [Bm (Fx hi),List.map_append]
    exact Ad.snoc (Ad.ev (Ev.same s2) _ _ h.2) r2
   ·intro m hm
    refine ⟨m,_,rfl,.inl ⟨Am.of Ai,fun t ht => ?_⟩⟩
    have s3 := (Ab.new (o := .lst ys) hm).trans (Ab.new (o := .tup ys) ht)
    refine q _ _ (s1.trans (h.1.trans s3)) (Aa.tup Ai ?_)
    have r3 := Ad.ev (Ev.same s3) _ _ h.2
    rw [List.take_of_length_le (by rw [DE,List.length_map]; exact Nat.le_refl _)] at r3
    exact r3
 ·exact h.elim
theorem Q9 (F : Df K mg "draws_of" s_draws_of ["plant","story"]) (T : Tx mg) (D_drawn_by : Fn P w K mg base 1 "drawn_by" ["engine","hour"] Gj) (DE_need_story : AZ P w K mg base 8 "need_story" ["plant","story"] (BO ds Ip)) : AZ P w K mg base 9 "draws_of" ["plant","story"] (BO ds KK) := by
 refine F.fnE sc_draws_of (fun vs H Q E h => ?_) (fun f cdv A outer s H vs Q E hr h => ?_)
 ·unfold BO at h; split at h; rfl; exact h.elim
 unfold BO at h
 split at h
 ·rename_i v u
  refine ⟨_,(@Aj _ _ _ _ _ (@Br _ _ _ _ (Ba Bc DE_need_story (hr.mono (by decide)) rfl (@Al _ _ _ _ _ (@cx _ 0 _ _ (by rfl)) (@cx _ 1 _ _ (by rfl)) (by rfl))) (by rfl)) (@Aj _ _ _ _ _ (@AB _ _ (2) _ _ _ _ sc_draws_of.nd rfl (Ay (by rfl)) (@AD _ _ _ _ _ _ _ (@AT _ K (by rfl)) (@cx _ 0 _ _ (by rfl)) (@Ae _ _ _ _) (fun _ _ => rfl)) (by rfl) (Az (by rfl))) (@Ao _ _ _ (@Au _ _ _ _ (@BL _ _ _ _ _ _ _ _ _ (@CB _ K (by rfl)) rfl T.b_tuple Ci (@Ak _ _ _ (@BD _ _ _ _ _ _ _ _ _ _ _ ["hour","units","engines"] [none,none,some 2] rfl (@Fv _ P w K _ _ _ _ _ _ _ rfl T.b_enumerate (@Ak _ _ _ (@AD _ _ _ _ _ _ _ (@AT _ K (by rfl)) (@cx _ 1 _ _ (by rfl)) (@Ae _ _ _ _) (fun _ _ => rfl)) (by rfl)) (by rfl) (by rfl) (by rfl) (by rfl)) (AM.of rfl) (fun _ _ _ _ => (@AI _ K _ _ _ (2) _ (@Ah _ _ _ _ _ (@Ag _ _ _ 0 (AS (by rfl)) (by rfl)) (@Ah _ _ _ _ _ (@Ag _ _ _ 1 (AS (by rfl)) (by rfl)) (@AH _) (by rfl)) (by rfl)) (by rfl) (by rfl) (by rfl) (by rfl))) (fun _ _ _ _ => (@Bw _)) (fun _ _ _ _ => (@As _ _ _ _ _ _ _ _ (@A2 _) (@cx _ 1 _ _ (by rfl)) (@AC _ _ _ _ _ _ _ _ _ (@Fw _ rfl) rfl T.b_sum boot_sum (@Ak _ _ _ (@BD _ _ _ _ _ _ _ _ _ _ _ ["engine","hour"] [none,some 0] rfl (@Cj _ K _ _ _ (@cx _ 2 _ _ (by rfl)) (by rfl)) (AM.of rfl) (fun _ _ _ _ => (@Ag _ _ _ 0 (AS (by rfl)) (by rfl))) (fun _ _ _ _ => (@Bw _)) (fun _ _ _ _ => (@An _ _ _ _ _ _ _ _ _ _ D_drawn_by (hr.mono (by decide)) rfl (@Al _ _ _ _ _ (@cx _ 0 _ _ (by rfl)) (@cx _ 1 _ _ (by rfl)) (by rfl)) (by decide) (by rfl) (by rfl))) (by intro _; rfl)) (by rfl)) (by decide) (by decide) (by rfl) (by rfl)))) (by intro _; rfl)) (by rfl)) (by decide) (by decide) (by rfl) (by rfl)))))),?_⟩
  rcases h with h | ⟨p,P,S,ok,so,r,ru,q⟩
  ·exact .inl h
  ·refine .inr ⟨p,P,S,ok,so,r,ru,fun H1 s1 => ?_⟩
   obtain ⟨A,B,E,xf,rfl,hA,hB,hE,rf⟩ := Aa.story (Aa.ev (Ev.same s1) _ _ ru)
   obtain ⟨PA,PB,PE,PM,xb,xe,rfl,pA,pB,rb,pE,re,pM⟩ := Aa.plant (Aa.ev (Ev.same s1) _ _ r)
   have x8 := so.x8
   have e4 := ok.e4
   have le := re.len
   rw [List.length_map] at le
   refine ⟨PA,_,1,.ref PE,rfl,rfl,Af.of pA,rfl,A,_,0,.ref B,rfl,rfl,Af.of hA,rfl,B,rfl,⟨_,Af.of hB⟩,walk_enum (xs := S.ex.map V.int) (fun i ys H' => Ab H1 H' /\ ys = ((draws P S).take i).map V.int) (by rw [List.length_map]; omega) ⟨Ab.refl _,rfl⟩ (fun i ys H' h => by rw [h.2,List.length_map,List.length_take]; omega) (fun i ys H' h => Af.of (h.1 _ _ hB)) (fun i x ys H' T hx h hT => ?_) fun ys H' h => ?_⟩
   ·rw [List.getElem?_map] at hx
    cases z : S.ex[i]? with
    | none => rw [z] at hx; cases hx
    | some n =>
     rw [z] at hx
     cases hx
     have s2 : Ab H1 (upd H' T (.tup [.int i,.int n])) := h.1.trans (Ab.new hT)
     refine ⟨T,_,rfl,Af.of Ai,rfl,_,_,rfl,_,_,rfl,rfl,⟨rfl,trivial⟩,fun _ => ?_,fun z => by cases z⟩
     refine ⟨PE,rfl,⟨xe,Af.of (s2 _ _ pE)⟩,CA (xs := xe) (fun j zs H2 => Ab H1 H2 /\ zs = ((P.es.take j).map fun e => drawn e i).map V.int) (by omega) ⟨s2,rfl⟩ (fun j zs H2 h => by rw [h.2,List.length_map,List.length_map,List.length_take]; omega) (fun j zs H2 _ h => Af.of (h.1 _ _ pE)) (fun j x zs H2 hx h2 => ?_) fun zs H2 h2 => ?_⟩
     ·obtain ⟨f,hf,rd⟩ := Ad.mapGot re hx
      refine ⟨⟨rfl,trivial⟩,fun _ => ⟨p,f,Aa.ev (Ev.same h2.1) _ _ rd,(ok.e f (List.mem_of_getElem? hf)).2.2.2.2.1,h2.1,?_⟩,fun z => by cases z⟩
      rw [Bm hf,List.map_append,List.map_append,h2.2]; rfl
     ·intro m hm
      refine ⟨m,P.es.map fun e => drawn e i,rfl,?_,h2.1.trans (Ab.new hm),?_⟩
      ·rw [Ai,h2.2,List.take_of_length_le (by omega)]
      ·rw [Bm (HL z),List.map_append,h.2]; rfl
   ·intro m hm
    refine ⟨m,_,rfl,.inl ⟨Am.of Ai,fun t ht => ?_⟩⟩
    refine q _ _ (s1.trans (h.1.trans ((Ab.new hm).trans (Ab.new ht)))) (Aa.row ?_)
    rw [Ai,h.2,List.take_of_length_le (by rw [B6,List.length_map]; omega)]
 ·exact h.elim
abbrev DL (P : Program) (w : World) (K : PySem.W.Frag) (mg : Str -> Option Value) (base : Heap) (ds : List Addr) : Prop := AZ P w K mg base 10 "terms_of" ["plant","story"] (BO ds Q6)
theorem Ra (F : Df K mg "terms_of" s_terms_of ["plant","story"]) (T : Tx mg) (DE_caps_of : AZ P w K mg base 9 "caps_of" ["plant","story"] (BO ds KJ)) (DE_draws_of : AZ P w K mg base 9 "draws_of" ["plant","story"] (BO ds KK)) : DL P w K mg base ds := by
 refine F.fnE sc_terms_of (fun vs H Q E h => ?_) (fun f cdv A outer s H vs Q E hr h => ?_)
 ·unfold BO at h; split at h; rfl; exact h.elim
 unfold BO at h
 split at h
 ·rename_i v u
  refine ⟨_,(@Aj _ _ _ _ _ (@AB _ _ (2) _ _ _ _ sc_terms_of.nd rfl (Ay (by rfl)) (Ba Bc DE_caps_of (hr.mono (by decide)) rfl (@Al _ _ _ _ _ (@cx _ 0 _ _ (by rfl)) (@cx _ 1 _ _ (by rfl)) (by rfl))) (by rfl) (Az (by rfl))) (@Aj _ _ _ _ _ (@AB _ _ (3) _ _ _ _ sc_terms_of.nd rfl (Ay (by rfl)) (@BL _ _ _ _ _ _ _ _ _ (@CB _ K (by rfl)) rfl T.b_tuple Ci (@Ak _ _ _ (@BD _ _ _ _ _ _ _ _ _ _ _ ["make","coal"] [none,none] rfl (@Cj _ K _ _ _ (@AD _ _ _ _ _ _ _ (@AT _ K (by rfl)) (@cx _ 0 _ _ (by rfl)) (@Ae _ _ _ _) (fun _ _ => rfl)) (by rfl)) (AM.of rfl) (fun _ _ _ _ => (@AI _ K _ _ _ (2) _ (@Ah _ _ _ _ _ (@Ag _ _ _ 0 (AS (by rfl)) (by rfl)) (@Ah _ _ _ _ _ (@Ag _ _ _ 1 (AS (by rfl)) (by rfl)) (@AH _) (by rfl)) (by rfl)) (by rfl) (by rfl) (by rfl) (by rfl))) (fun _ _ _ _ => (@Bw _)) (fun _ _ _ _ => (@cx _ 1 _ _ (by rfl))) (by intro _; rfl)) (by rfl)) (by decide) (by decide) (by rfl) (by rfl)) (by rfl) (Az (by rfl))) (@Ao _ _ _ (@Au _ _ _ _ (@A9 _ _ _ _ _ (@A4 _ _ _ _ _ _ _ _ _ (@cx _ 2 _ _ (by rfl)) (@cx _ 3 _ _ (by rfl)) (Ba Bc DE_draws_of (hr.mono (by decide)) rfl (@Al _ _ _ _ _ (@cx _ 0 _ _ (by rfl)) (@cx _ 1 _ _ (by rfl)) (by rfl))) (@AD _ _ _ _ _ _ _ (@AT _ K (by rfl)) (@cx _ 0 _ _ (by rfl)) (@Ae _ _ _ _) (fun _ _ => rfl)) (by rfl))))))),?_⟩
  rcases h with h | ⟨p,P,S,ok,so,r,ru,q⟩
  ·exact .inl h
  ·refine .inr ⟨p,P,S,ok,so,r,ru,fun cv H1 s1 rc => ?_⟩
   obtain ⟨PA,PB,PE,PM,xb,xe,rfl,pA,pB,rb,pE,re,pM⟩ := Aa.plant (Aa.ev (Ev.same s1) _ _ r)
   have b4 := ok.b4
   have lb := rb.len
   rw [List.length_map] at lb
   refine ⟨PA,_,0,.ref PB,rfl,rfl,Af.of pA,rfl,PB,rfl,⟨xb,Af.of pB⟩,CA (xs := xb) (fun i ys H' => Ab H1 H' /\ ys = ((P.bs.take i).map fun q => V.int q.2)) (by omega) ⟨Ab.refl _,rfl⟩ (fun i ys H' h => by rw [h.2,List.length_map,List.length_take]; omega) (fun i ys H' _ h => Af.of (h.1 _ _ pB)) (fun i x ys H' hx h => ?_) fun ys H' h => ?_⟩
   ·obtain ⟨f,hf,rd⟩ := Ad.mapGot rb hx
    obtain ⟨l,zs,rfl,hl',rz⟩ := Aa.shape (Aa.ev (Ev.same h.1) _ _ rd)
    obtain ⟨y1,y2,rfl,r1,r2⟩ := Ad.two rz
    unfold Aa at r1 r2
    subst r1 r2
    refine ⟨l,_,rfl,Af.of hl',rfl,_,_,rfl,_,_,rfl,rfl,trivial,fun _ => ⟨h.1,?_⟩,fun z => by cases z⟩
    rw [Bm hf,List.map_append,h.2]; rfl
   ·intro m hm
    refine ⟨m,_,rfl,.inl ⟨Am.of Ai,fun t ht => ?_⟩⟩
    have nt := Ab.new (o := .tup ys) ht
    have s2 := h.1.trans ((Ab.new (o := .lst ys) hm).trans nt)
    refine .inr ⟨p,P,S,ok,so,Aa.ev (Ev.same (s1.trans s2)) _ _ r,Aa.ev (Ev.same (s1.trans s2)) _ _ ru,fun dv H3 s3 rd => ?_⟩
    have s13 := s2.trans s3
    refine ⟨PA,_,2,.ref PM,rfl,rfl,Af.of (s13 _ _ pA),rfl,fun t2 ht2 => ?_⟩
    have s4 := Ab.new (o := .tup [cv,.ref t,dv,.ref PM]) ht2
    have ey : ys = (P.bs.map (·.2)).map V.int := by rw [h.2,List.take_of_length_le (by omega),List.map_map]; rfl
    have ht4 := (s3.trans s4) _ _ (Ai (H := upd H' m (.lst ys)) (a := t) (o := .tup ys))
    rw [ey] at ht4
    refine q _ _ (s1.trans (s13.trans s4)) (Aa.tup Ai (.cons (Aa.ev (Ev.same (s13.trans s4)) _ _ rc) (.cons (Aa.row ht4) (.cons (Aa.ev (Ev.same s4) _ _ rd) (.cons (Aa.tup ((s13.trans s4) _ _ pM) (.cons Aa.int (.cons Aa.int (.cons Aa.int .nil)))) .nil)))))
 ·exact h.elim
end
end MF
end
section
namespace MF
open PySem PySem.Spec PyProof.Rows L2
variable {p : Addr} {H : Hp}
section
variable {P : Program} {w : World} {K : PySem.W.Frag} {mg : Str -> Option Value} {base : Heap} {M : Addr} {ds : List Addr}
def KM (w : Str) : Nat := if w = "plant" then 0 else if w = "story" then 1 else if w = "hour" then 3 else if w = "boiler" then 4 else 6
structure EY (ds : List Addr) (w : Str) (H : Hp) (Q : VK) (E : XK) : Prop where
 told : w = "told" -> ∀ x H',(x = .non \/ ∃ k,x = .int k) -> Ab H H' -> Q x H'
 word : w ≠ "told" -> ∀ H',Ab H H' -> E (.ref (ds.getD (KM w) 0)) none H'
def AW (P : PL) (S : SY) : Str := if BA (terms P S) = none then "told" else "way"
def Bj (d : PyData) (P : PL) (S : SY) : Str := if AN d 0 ((S.ex.length : Int) - 1) = true then AW P S else "hour"
def B3 (b d : PyData) (P : PL) (S : SY) : Str := if AN b 0 ((P.bs.length : Int) - 1) = true then Bj d P S else "boiler"
def Cb (p : Addr) (H : Hp) (v u : V) (g : PL -> SY -> Str) (w : Str) : Prop := (∃ d,Aa p H d v /\ B9 d = false /\ w = "plant") \/ (∃ P d,PL.ok P /\ Aa p H P.d v /\ Aa p H d u /\ Eo d /\ Ck P.bs.length d = false /\ w = "story") \/ (∃ P S,PL.ok P /\ SY.ok S P.bs.length /\ Aa p H P.d v /\ Aa p H S.d u /\ w = g P S)
theorem Cb.split {v u : V} {g : PL -> SY -> Str} {w : Str} {ds : List Addr} {Q Q' : VK} {E : XK} (h : Cb p H v u g w) (t : EY ds w H Q E) : Io ds [v,u] H Q' E \/ ∃ P S,PL.ok P /\ SY.ok S P.bs.length /\ Aa p H P.d v /\ Aa p H S.d u /\ w = g P S := by
 rcases h with ⟨d,r,hp,rfl⟩ | ⟨P,d,ok,r,ru,fs,hs,rfl⟩ | h
 ·exact .inl (.inl ⟨p,d,r,hp,fun H' s' => t.word (by decide) H' s'⟩)
 ·exact .inl (.inr ⟨p,P,d,ok,r,ru,fs,hs,fun H' s' => t.word (by decide) H' s'⟩)
 ·exact .inr h
def Ep (ds : List Addr) : Sp := fun vs H Q E => match vs with | [u,h] => ∃ p S n d,SY.ok S n /\ Aa p H S.d u /\ Aa p H d h /\ (AN d 0 ((S.ex.length : Int) - 1) = false -> ∀ H',Ab H H' -> E (.ref (ds.getD 3 0)) none H') /\ (AN d 0 ((S.ex.length : Int) - 1) = true -> ∀ H',Ab H H' -> Q .non H') | _ => False
def GE (ds : List Addr) : Sp := fun vs H Q E => match vs with | [v,b] => ∃ p P d,PL.ok P /\ Aa p H P.d v /\ Aa p H d b /\ (AN d 0 ((P.bs.length : Int) - 1) = false -> ∀ H',Ab H H' -> E (.ref (ds.getD 4 0)) none H') /\ (AN d 0 ((P.bs.length : Int) - 1) = true -> ∀ H',Ab H H' -> Q .non H') | _ => False
def Iq (ds : List Addr) : Sp := fun vs H Q E => match vs with | [v] => ∃ p T,BG T /\ Aa p H T.d v /\ (BA T ≠ none -> ∀ H',Ab H H' -> E (.ref (ds.getD 6 0)) none H') /\ (BA T = none -> ∀ f H',Ab H H' -> Q (.int f) H') | _ => False
def Cm (ds : List Addr) : Sp := fun vs H Q E => match vs with | [v,u] => ∃ p w,Cb p H v u AW w /\ EY ds w H Q E | _ => False
def Dm (ds : List Addr) : Sp := fun vs H Q E => match vs with | [v,u,h] => ∃ p d w,Aa p H d h /\ Cb p H v u (Bj d) w /\ EY ds w H Q E | _ => False
def GF (ds : List Addr) : Sp := fun vs H Q E => match vs with | [v,u,b,h] => ∃ p e d w,Aa p H e b /\ Aa p H d h /\ Cb p H v u (B3 e d) w /\ EY ds w H Q E | _ => False
theorem Er {p : Addr} {H : Hp} {T : TM} {A C B D M : Addr} {xc : List V} (hA : H A = some (.tup [.ref C,.ref B,.ref D,.ref M])) (hC : H C = some (.tup xc)) (rc : Ad p H (T.cs.map A3) xc) (hB : H B = some (.tup (T.co.map V.int))) (hD : H D = some (.tup (T.ds.map V.int))) (hM : H M = some (.tup [.int T.lo,.int T.hi,.int T.st])) : Aa p H T.d (.ref A) :=
 Aa.tup hA (.cons (Aa.tup hC rc) (.cons (Aa.row hB) (.cons (Aa.row hD) (.cons (Aa.tup hM (.cons Aa.int (.cons Aa.int (.cons Aa.int .nil)))) .nil))))
theorem KN {d : PyData} {x : V} (rx : Aa p H d x) : ∀ {ds : List PyData} {xs : List V} (k : Nat),Ad p H ds xs -> Ad p H (ds.set k d) (xs.set k x)
 | [],xs,k,r => by unfold Ad at r; subst r; exact .nil
 | e :: ds,xs,0,r => by
  unfold Ad at r
  obtain ⟨y,t,rfl,ry,rt⟩ := r
  exact .cons rx rt
 | e :: ds,xs,k + 1,r => by
  unfold Ad at r
  obtain ⟨y,t,rfl,ry,rt⟩ := r
  exact .cons ry (KN rx k rt)
theorem Rb {T : TM} (f : BG T) {x : Int} (h0 : 0 <= x) (h1 : x <= 100) : BG { T with hi := x } := ⟨⟨f.ok.l8,f.ok.lc⟩,f.c,f.o,f.o1,f.d,f.l0,h0,f.s0,f.l4,h1,f.s4⟩
theorem Rc {T : TM} (f : BG T) {x : Int} (h0 : 0 <= x) (h1 : x <= 100) : BG { T with lo := x } := ⟨⟨f.ok.l8,f.ok.lc⟩,f.c,f.o,f.o1,f.d,h0,f.h0,f.s0,h1,f.h4,f.s4⟩
theorem Re {T : TM} (f : BG T) {x : Int} (h0 : 0 <= x) (h1 : x <= 100) : BG { T with st := x } := ⟨⟨f.ok.l8,f.ok.lc⟩,f.c,f.o,f.o1,f.d,f.l0,f.h0,h0,f.l4,f.h4,h1⟩
theorem KO {T : TM} (f : BG T) {k : Nat} {x : Int} (h0 : 0 <= x) (h1 : x <= 100) : BG { T with ds := T.ds.set k x } := by
 refine ⟨⟨by show (T.ds.set k x).length <= 8; rw [List.length_set]; exact f.ok.l8,by show T.cs.length = (T.ds.set k x).length; rw [List.length_set]; exact f.ok.lc⟩,f.c,f.o,f.o1,fun y hy => ?_,f.l0,f.h0,f.s0,f.l4,f.h4,f.s4⟩
 rcases List.mem_or_eq_of_mem_set hy with hy | rfl
 ·exact f.d y hy
 ·exact ⟨h0,h1⟩
theorem Rf {T : TM} (f : BG T) {k : Nat} {r : List Int} (h : r.length = T.co.length) (hc : ∀ c ∈ r,0 <= c /\ c <= 20) : BG { T with cs := T.cs.set k r } := by
 refine ⟨⟨f.ok.l8,by show (T.cs.set k r).length = T.ds.length; rw [List.length_set]; exact f.ok.lc⟩,fun y hy => ?_,f.o,f.o1,f.d,f.l0,f.h0,f.s0,f.l4,f.h4,f.s4⟩
 rcases List.mem_or_eq_of_mem_set hy with hy | rfl
 ·exact f.c y hy
 ·exact ⟨h,hc⟩
theorem Ir {T U : TM} (hd : T.ds = U.ds) (hc : T.cs = U.cs) (s : T.st <= U.st) (h : T.hi <= U.hi) (lo : U.lo <= T.lo) (no : BA T = none) : BA U = none :=
 HY (by rw [hd]) (fun i => by rw [hd]; exact Int.le_refl _) (by rw [hc]) (fun i => by rw [hc]; exact Int.le_refl _) s h lo no
theorem Rg {r : List Int} : ∀ {k : Nat} {x : Int},k < r.length -> (r.set k x).sum = r.sum + x - r.getD k 0 := by
 induction r with
 | nil => intro k x h; simp at h
 | cons a r ih =>
  intro k x h
  cases k with
  | zero => show x + r.sum = a + r.sum + x - a; omega
  | succ k =>
   have := ih (k := k) (x := x) (by simpa using h)
   show a + (r.set k x).sum = a + r.sum + x - r.getD k 0
   omega
theorem Rh : Ax ["story","hour"] ["story","hour"] (Aq s_need_hour) := AF
theorem Ri : Ax ["plant","boiler"] ["plant","boiler"] (Aq s_need_boiler) := AF
theorem sc_coal_or_refuse : Ax ["terms","coal"] ["terms"] (Aq s_coal_or_refuse) := AF
theorem sc_wider : Ax ["plant","story","terms","coal","caps","coals","draws","low","high","start"] ["plant","story"] (Aq s_wider) := AF
theorem sc_lower : Ax ["plant","story","terms","coal","caps","coals","draws","low","high","start"] ["plant","story"] (Aq s_lower) := AF
theorem sc_fuller : Ax ["plant","story","terms","coal","caps","coals","draws","low","high","start"] ["plant","story"] (Aq s_fuller) := AF
theorem sc_more_drawn : Ax ["plant","story","hour","terms","coal","caps","coals","draws","main","grown"] ["plant","story","hour"] (Aq s_more_drawn) := AF
theorem sc_less_drawn : Ax ["plant","story","hour","terms","coal","caps","coals","draws","main"] ["plant","story","hour"] (Aq s_less_drawn) := AF
theorem sc_better : Ax ["plant","story","boiler","hour","terms","coal","caps","coals","draws","main","grown"] ["plant","story","boiler","hour"] (Aq s_better) := AF
theorem Rj (F : Df K mg "need_hour" s_need_hour ["story","hour"]) (T : Tx mg) (C : Tc K mg M ds) (D_is_whole_from : Dh P w K mg base) : AZ P w K mg base 3 "need_hour" ["story","hour"] (Ep ds) := by
 refine F.fnE Rh (fun vs H Q E h => ?_) (fun f cdv A outer s H vs Q E hr h => ?_)
 ·unfold Ep at h; split at h; rfl; exact h.elim
 unfold Ep at h
 split at h
 ·rename_i u h'
  obtain ⟨p,S,n,d,so,ru,rd,q1,q2⟩ := h
  obtain ⟨A,B,E,xf,rfl,hA,hB,hE,rf⟩ := Aa.story ru
  refine ⟨_,(@Ao _ _ _ (@A8 _ _ _ _ _ _ _ _ (@Cr _ _ _ _ (@BV _ _ _ (@An _ _ _ _ _ _ _ _ _ _ D_is_whole_from (hr.mono (by decide)) rfl (@AA _ _ _ _ _ _ _ (@cx _ 1 _ _ (by rfl)) (@Ae _ _ _ _) (@As _ _ _ _ _ _ _ _ (@Bk _) (@AC _ _ _ _ _ _ _ _ _ (@BM _ K (by rfl)) rfl T.b_len PySem.boot_len (@Ak _ _ _ (@AD _ _ _ _ _ _ _ (@AT _ K (by rfl)) (@cx _ 0 _ _ (by rfl)) (@Ae _ _ _ _) (fun _ _ => rfl)) (by rfl)) (by decide) (by decide) (by rfl) (by rfl)) (@Ae _ _ _ _)) (by rfl)) (by decide) (by rfl) (by rfl)) (by intro _; rfl))) (@Ao _ _ _ (EM Bc rfl C.n_NoHour C.x_NoHour rfl (@Ak _ _ _ (@AK _ _ _ _) (by rfl)))) (@A5 _))),?_⟩
  refine ⟨A,_,0,.ref B,rfl,rfl,Af.of hA,rfl,B,_,rfl,.inr (Af.of hB),p,d,rd,fun b hb => ⟨fun c => ⟨Bl rfl,q1 ?_ _ (Ab.refl _)⟩,fun c => q2 ?_ _ (Ab.refl _)⟩⟩
  ·rw [List.length_map] at hb; rw [<- hb]; simpa using c
  ·rw [List.length_map] at hb; rw [<- hb]; simpa using c
 ·exact h.elim
theorem Rk (F : Df K mg "need_boiler" s_need_boiler ["plant","boiler"]) (T : Tx mg) (C : Tc K mg M ds) (D_is_whole_from : Dh P w K mg base) : AZ P w K mg base 3 "need_boiler" ["plant","boiler"] (GE ds) := by
 refine F.fnE Ri (fun vs H Q E h => ?_) (fun f cdv A outer s H vs Q E hr h => ?_)
 ·unfold GE at h; split at h; rfl; exact h.elim
 unfold GE at h
 split at h
 ·rename_i v b'
  obtain ⟨p,P,d,ok,r,rd,q1,q2⟩ := h
  obtain ⟨PA,PB,PE,PM,xb,xe,rfl,pA,pB,rb,pE,re,pM⟩ := Aa.plant r
  have lb := rb.len
  rw [List.length_map] at lb
  refine ⟨_,(@Ao _ _ _ (@A8 _ _ _ _ _ _ _ _ (@Cr _ _ _ _ (@BV _ _ _ (@An _ _ _ _ _ _ _ _ _ _ D_is_whole_from (hr.mono (by decide)) rfl (@AA _ _ _ _ _ _ _ (@cx _ 1 _ _ (by rfl)) (@Ae _ _ _ _) (@As _ _ _ _ _ _ _ _ (@Bk _) (@AC _ _ _ _ _ _ _ _ _ (@BM _ K (by rfl)) rfl T.b_len PySem.boot_len (@Ak _ _ _ (@AD _ _ _ _ _ _ _ (@AT _ K (by rfl)) (@cx _ 0 _ _ (by rfl)) (@Ae _ _ _ _) (fun _ _ => rfl)) (by rfl)) (by decide) (by decide) (by rfl) (by rfl)) (@Ae _ _ _ _)) (by rfl)) (by decide) (by rfl) (by rfl)) (by intro _; rfl))) (@Ao _ _ _ (EM Bc rfl C.n_NoBoiler C.x_NoBoiler rfl (@Ak _ _ _ (@AK _ _ _ _) (by rfl)))) (@A5 _))),?_⟩
  refine ⟨PA,_,0,.ref PB,rfl,rfl,Af.of pA,rfl,PB,_,rfl,.inr (Af.of pB),p,d,rd,fun b hb => ⟨fun c => ⟨Bl rfl,q1 ?_ _ (Ab.refl _)⟩,fun c => q2 ?_ _ (Ab.refl _)⟩⟩
  ·rw [lb,<- hb]; simpa using c
  ·rw [lb,<- hb]; simpa using c
 ·exact h.elim
abbrev DM (P : Program) (w : World) (K : PySem.W.Frag) (mg : Str -> Option Value) (base : Heap) (ds : List Addr) : Prop := AZ P w K mg base 5 "coal_or_refuse" ["terms"] (Iq ds)
theorem Rl (F : Df K mg "coal_or_refuse" s_coal_or_refuse ["terms"]) (T : Tx mg) (C : Tc K mg M ds) (D_coal_under : Dl P w K mg base) : DM P w K mg base ds := by
 refine F.fnE sc_coal_or_refuse (fun vs H Q E h => ?_) (fun f cdv A outer s H vs Q E hr h => ?_)
 ·unfold Iq at h; split at h; rfl; exact h.elim
 unfold Iq at h
 split at h
 ·rename_i v
  obtain ⟨p,T,fl,r,q1,q2⟩ := h
  refine ⟨_,(@Aj _ _ _ _ _ (@AB _ _ (1) _ _ _ _ sc_coal_or_refuse.nd rfl (Ay (by rfl)) (@An _ _ _ _ _ _ _ _ _ _ D_coal_under (hr.mono (by decide)) rfl (@Ak _ _ _ (@cx _ 0 _ _ (by rfl)) (by rfl)) (by decide) (by rfl) (by rfl)) (by rfl) (Az (by rfl))) (@Aj _ _ _ _ _ (@A8 _ _ _ _ _ _ _ _ (@A7 _ _ _ _ _ _ _ _ (@IS _) (@cx _ 1 _ _ (by rfl)) (@BC _ _ _) (A6 _)) (@Ao _ _ _ (EM Bc rfl C.n_NoWay C.x_NoWay rfl (@Ak _ _ _ (@AK _ _ _ _) (by rfl)))) (@A5 _)) (@Ao _ _ _ (@Au _ _ _ _ (@cx _ 1 _ _ (by rfl)))))),?_⟩
  refine ⟨p,T,fl,r,fun no H1 s1 => ⟨rfl,⟨fun _ => ⟨Bl rfl,q1 no _ s1⟩,fun c => by simp at c⟩⟩,fun yes f ps H1 _ s1 => ⟨rfl,⟨fun c => by simp at c,fun _ => q2 yes f _ s1⟩⟩⟩
 ·exact h.elim
theorem Rm (F : Df K mg "wider" s_wider ["plant","story"]) (T : Tx mg) (D_coal_under : Dl P w K mg base) (DE_coal_or_refuse : DM P w K mg base ds) (DE_terms_of : DL P w K mg base ds) : AZ P w K mg base 11 "wider" ["plant","story"] (Cm ds) := by
 refine F.fnE sc_wider (fun vs H Q E h => ?_) (fun f cdv A outer s H vs Q E hr h => ?_)
 ·unfold Cm at h; split at h; rfl; exact h.elim
 unfold Cm at h
 split at h
 ·rename_i v u
  obtain ⟨p,w,wr,te⟩ := h
  refine ⟨_,(@Aj _ _ _ _ _ (@AB _ _ (2) _ _ _ _ sc_wider.nd rfl (Ay (by rfl)) (Ba Bc DE_terms_of (hr.mono (by decide)) rfl (@Al _ _ _ _ _ (@cx _ 0 _ _ (by rfl)) (@cx _ 1 _ _ (by rfl)) (by rfl))) (by rfl) (Az (by rfl))) (@Aj _ _ _ _ _ (@AB _ _ (3) _ _ _ _ sc_wider.nd rfl (Ay (by rfl)) (Ba Bc DE_coal_or_refuse (hr.mono (by decide)) rfl (@Ak _ _ _ (@cx _ 2 _ _ (by rfl)) (by rfl))) (by rfl) (Az (by rfl))) (@Aj _ _ _ _ _ (@Bb _ _ _ _ _ _ (@cx _ 2 _ _ (by rfl)) (@AI _ K _ _ _ (4) _ (@Ah _ _ _ _ _ (@Ag _ _ _ 4 sc_wider.nd (by rfl)) (@Ah _ _ _ _ _ (@Ag _ _ _ 5 sc_wider.nd (by rfl)) (@Ah _ _ _ _ _ (@Ag _ _ _ 6 sc_wider.nd (by rfl)) (@Ah _ _ _ _ _ (@AI _ K _ _ _ (3) _ (@Ah _ _ _ _ _ (@Ag _ _ _ 7 sc_wider.nd (by rfl)) (@Ah _ _ _ _ _ (@Ag _ _ _ 8 sc_wider.nd (by rfl)) (@Ah _ _ _ _ _ (@Ag _ _ _ 9 sc_wider.nd (by rfl)) (@AH _) (by rfl)) (by rfl)) (by rfl)) (by rfl) (by rfl) (by rfl) (by rfl)) (@AH _) (by rfl)) (by rfl)) (by rfl)) (by rfl)) (by rfl) (by rfl) (by rfl) (by rfl)) (by rfl) (by rfl) (by rfl)) (@Ao _ _ _ (@Au _ _ _ _ (@As _ _ _ _ _ _ _ _ (@Bk _) (@cx _ 3 _ _ (by rfl)) (@An _ _ _ _ _ _ _ _ _ _ D_coal_under (hr.mono (by decide)) rfl (@Ak _ _ _ (@A9 _ _ _ _ _ (@A4 _ _ _ _ _ _ _ _ _ (@cx _ 4 _ _ (by rfl)) (@cx _ 5 _ _ (by rfl)) (@cx _ 6 _ _ (by rfl)) (@A9 _ _ _ _ _ (@AA _ _ _ _ _ _ _ (@cx _ 7 _ _ (by rfl)) (@As _ _ _ _ _ _ _ _ (@A2 _) (@cx _ 8 _ _ (by rfl)) (@Ae _ _ _ _)) (@cx _ 9 _ _ (by rfl)) (by rfl))) (by rfl))) (by rfl)) (by decide) (by rfl) (by rfl)))))))),?_⟩
  rcases wr.split (Q' := fun _ _ => True) te with h | ⟨P,S,ok,so,r,ru,rfl⟩
  ·refine .inl ?_
   rcases h with h | h
   ·exact .inl h
   ·exact .inr h
  refine .inr ⟨p,P,S,ok,so,r,ru,fun tv H1 s1 rt => ?_⟩
  have fl := Ed ok so
  refine ⟨p,terms P S,fl,rt,fun no H2 s2 => ?_,fun yes f H2 s2 => ?_⟩
  ·have e' : AW P S = "way" := by unfold AW; rw [if_neg no]
   rw [e'] at te
   exact te.word (by decide) _ (s1.trans s2)
  have e' : AW P S = "told" := by unfold AW; rw [if_pos yes]
  rw [e'] at te
  have hp0 := ok.lo0
  have hp1 := ok.ls
  have hp2 := ok.sh
  have hp3 := ok.h4
  have sA := s1.trans s2
  obtain ⟨A,C,B,D,M,xc,rfl,hA,hC,rc,hB,hD,hM⟩ := Aa.terms (Aa.ev (Ev.same s2) _ _ rt)
  refine ⟨A,_,rfl,Af.of hA,rfl,_,_,rfl,_,_,rfl,_,_,rfl,_,_,rfl,M,_,rfl,Af.of hM,rfl,_,_,rfl,_,_,rfl,_,_,rfl,rfl,rfl,?_⟩
  refine fun t1 ht1 t2 ht2 => ?_
  have n1 := Ab.new (o := .tup [.int (P.lo),.int (P.hi + 1),.int (P.st)]) ht1
  have n2 := Ab.new (o := .tup [.ref C,.ref B,.ref D,.ref t1]) ht2
  have n12 := n1.trans n2
  refine ⟨p,{ terms P S with hi := P.hi + 1 },Rb fl (by omega) (by omega),Er Ai (n12 _ _ hC) (Ad.ev (Ev.same n12) _ _ rc) (n12 _ _ hB) (n12 _ _ hD) (n2 _ _ Ai),fun no => absurd (Ir (T := terms P S) (U := { terms P S with hi := P.hi + 1 }) rfl rfl (Int.le_refl _) (show P.hi <= P.hi + 1 by omega) (Int.le_refl _) yes) no,fun _ f2 ps H3 _ s3 => te.told rfl _ _ (.inr ⟨_,rfl⟩) (sA.trans (n12.trans s3))⟩
 ·exact h.elim
theorem Rn (F : Df K mg "lower" s_lower ["plant","story"]) (T : Tx mg) (D_coal_under : Dl P w K mg base) (DE_coal_or_refuse : DM P w K mg base ds) (DE_terms_of : DL P w K mg base ds) : AZ P w K mg base 11 "lower" ["plant","story"] (Cm ds) := by
 refine F.fnE sc_lower (fun vs H Q E h => ?_) (fun f cdv A outer s H vs Q E hr h => ?_)
 ·unfold Cm at h; split at h; rfl; exact h.elim
 unfold Cm at h
 split at h
 ·rename_i v u
  obtain ⟨p,w,wr,te⟩ := h
  refine ⟨_,(@Aj _ _ _ _ _ (@AB _ _ (2) _ _ _ _ sc_lower.nd rfl (Ay (by rfl)) (Ba Bc DE_terms_of (hr.mono (by decide)) rfl (@Al _ _ _ _ _ (@cx _ 0 _ _ (by rfl)) (@cx _ 1 _ _ (by rfl)) (by rfl))) (by rfl) (Az (by rfl))) (@Aj _ _ _ _ _ (@AB _ _ (3) _ _ _ _ sc_lower.nd rfl (Ay (by rfl)) (Ba Bc DE_coal_or_refuse (hr.mono (by decide)) rfl (@Ak _ _ _ (@cx _ 2 _ _ (by rfl)) (by rfl))) (by rfl) (Az (by rfl))) (@Aj _ _ _ _ _ (@Bb _ _ _ _ _ _ (@cx _ 2 _ _ (by rfl)) (@AI _ K _ _ _ (4) _ (@Ah _ _ _ _ _ (@Ag _ _ _ 4 sc_lower.nd (by rfl)) (@Ah _ _ _ _ _ (@Ag _ _ _ 5 sc_lower.nd (by rfl)) (@Ah _ _ _ _ _ (@Ag _ _ _ 6 sc_lower.nd (by rfl)) (@Ah _ _ _ _ _ (@AI _ K _ _ _ (3) _ (@Ah _ _ _ _ _ (@Ag _ _ _ 7 sc_lower.nd (by rfl)) (@Ah _ _ _ _ _ (@Ag _ _ _ 8 sc_lower.nd (by rfl)) (@Ah _ _ _ _ _ (@Ag _ _ _ 9 sc_lower.nd (by rfl)) (@AH _) (by rfl)) (by rfl)) (by rfl)) (by rfl) (by rfl) (by rfl) (by rfl)) (@AH _) (by rfl)) (by rfl)) (by rfl)) (by rfl)) (by rfl) (by rfl) (by rfl) (by rfl)) (by rfl) (by rfl) (by rfl)) (@Aj _ _ _ _ _ (@A8 _ _ _ _ _ _ _ _ (@A7 _ _ _ _ _ _ _ _ (@CT _) (@cx _ 7 _ _ (by rfl)) (@Ae _ _ _ _) (A6 _)) (@Ao _ _ _ (@Au _ _ _ _ (@BC _ _ _))) (@A5 _)) (@Ao _ _ _ (@Au _ _ _ _ (@As _ _ _ _ _ _ _ _ (@Bk _) (@cx _ 3 _ _ (by rfl)) (@An _ _ _ _ _ _ _ _ _ _ D_coal_under (hr.mono (by decide)) rfl (@Ak _ _ _ (@A9 _ _ _ _ _ (@A4 _ _ _ _ _ _ _ _ _ (@cx _ 4 _ _ (by rfl)) (@cx _ 5 _ _ (by rfl)) (@cx _ 6 _ _ (by rfl)) (@A9 _ _ _ _ _ (@AA _ _ _ _ _ _ _ (@As _ _ _ _ _ _ _ _ (@Bk _) (@cx _ 7 _ _ (by rfl)) (@Ae _ _ _ _)) (@cx _ 8 _ _ (by rfl)) (@cx _ 9 _ _ (by rfl)) (by rfl))) (by rfl))) (by rfl)) (by decide) (by rfl) (by rfl))))))))),?_⟩
  rcases wr.split (Q' := fun _ _ => True) te with h | ⟨P,S,ok,so,r,ru,rfl⟩
  ·refine .inl ?_
   rcases h with h | h
   ·exact .inl h
   ·exact .inr h
  refine .inr ⟨p,P,S,ok,so,r,ru,fun tv H1 s1 rt => ?_⟩
  have fl := Ed ok so
  refine ⟨p,terms P S,fl,rt,fun no H2 s2 => ?_,fun yes f H2 s2 => ?_⟩
  ·have e' : AW P S = "way" := by unfold AW; rw [if_neg no]
   rw [e'] at te
   exact te.word (by decide) _ (s1.trans s2)
  have e' : AW P S = "told" := by unfold AW; rw [if_pos yes]
  rw [e'] at te
  have hp0 := ok.lo0
  have hp1 := ok.ls
  have hp2 := ok.sh
  have hp3 := ok.h4
  have sA := s1.trans s2
  obtain ⟨A,C,B,D,M,xc,rfl,hA,hC,rc,hB,hD,hM⟩ := Aa.terms (Aa.ev (Ev.same s2) _ _ rt)
  refine ⟨A,_,rfl,Af.of hA,rfl,_,_,rfl,_,_,rfl,_,_,rfl,_,_,rfl,M,_,rfl,Af.of hM,rfl,_,_,rfl,_,_,rfl,_,_,rfl,rfl,rfl,?_⟩
  refine ⟨rfl,⟨fun c => te.told rfl _ _ (.inl rfl) sA,fun c => ?_⟩⟩
  have c' : P.lo ≠ 0 := fun z => by
   rw [CM] at c
   rw [show (terms P S).lo = 0 from z] at c; simp at c
  refine fun t1 ht1 t2 ht2 => ?_
  have n1 := Ab.new (o := .tup [.int (P.lo - 1),.int (P.hi),.int (P.st)]) ht1
  have n2 := Ab.new (o := .tup [.ref C,.ref B,.ref D,.ref t1]) ht2
  have n12 := n1.trans n2
  refine ⟨p,{ terms P S with lo := P.lo - 1 },Rc fl (by omega) (by omega),Er Ai (n12 _ _ hC) (Ad.ev (Ev.same n12) _ _ rc) (n12 _ _ hB) (n12 _ _ hD) (n2 _ _ Ai),fun no => absurd (Ir (T := terms P S) (U := { terms P S with lo := P.lo - 1 }) rfl rfl (Int.le_refl _) (Int.le_refl _) (show P.lo - 1 <= P.lo by omega) yes) no,fun _ f2 ps H3 _ s3 => te.told rfl _ _ (.inr ⟨_,rfl⟩) (sA.trans (n12.trans s3))⟩
 ·exact h.elim
theorem Ro (F : Df K mg "fuller" s_fuller ["plant","story"]) (T : Tx mg) (D_coal_under : Dl P w K mg base) (DE_coal_or_refuse : DM P w K mg base ds) (DE_terms_of : DL P w K mg base ds) : AZ P w K mg base 11 "fuller" ["plant","story"] (Cm ds) := by
 refine F.fnE sc_fuller (fun vs H Q E h => ?_) (fun f cdv A outer s H vs Q E hr h => ?_)
 ·unfold Cm at h; split at h; rfl; exact h.elim
 unfold Cm at h
 split at h
 ·rename_i v u
  obtain ⟨p,w,wr,te⟩ := h
  refine ⟨_,(@Aj _ _ _ _ _ (@AB _ _ (2) _ _ _ _ sc_fuller.nd rfl (Ay (by rfl)) (Ba Bc DE_terms_of (hr.mono (by decide)) rfl (@Al _ _ _ _ _ (@cx _ 0 _ _ (by rfl)) (@cx _ 1 _ _ (by rfl)) (by rfl))) (by rfl) (Az (by rfl))) (@Aj _ _ _ _ _ (@AB _ _ (3) _ _ _ _ sc_fuller.nd rfl (Ay (by rfl)) (Ba Bc DE_coal_or_refuse (hr.mono (by decide)) rfl (@Ak _ _ _ (@cx _ 2 _ _ (by rfl)) (by rfl))) (by rfl) (Az (by rfl))) (@Aj _ _ _ _ _ (@Bb _ _ _ _ _ _ (@cx _ 2 _ _ (by rfl)) (@AI _ K _ _ _ (4) _ (@Ah _ _ _ _ _ (@Ag _ _ _ 4 sc_fuller.nd (by rfl)) (@Ah _ _ _ _ _ (@Ag _ _ _ 5 sc_fuller.nd (by rfl)) (@Ah _ _ _ _ _ (@Ag _ _ _ 6 sc_fuller.nd (by rfl)) (@Ah _ _ _ _ _ (@AI _ K _ _ _ (3) _ (@Ah _ _ _ _ _ (@Ag _ _ _ 7 sc_fuller.nd (by rfl)) (@Ah _ _ _ _ _ (@Ag _ _ _ 8 sc_fuller.nd (by rfl)) (@Ah _ _ _ _ _ (@Ag _ _ _ 9 sc_fuller.nd (by rfl)) (@AH _) (by rfl)) (by rfl)) (by rfl)) (by rfl) (by rfl) (by rfl) (by rfl)) (@AH _) (by rfl)) (by rfl)) (by rfl)) (by rfl)) (by rfl) (by rfl) (by rfl) (by rfl)) (by rfl) (by rfl) (by rfl)) (@Aj _ _ _ _ _ (@A8 _ _ _ _ _ _ _ _ (@A7 _ _ _ _ _ _ _ _ (@CT _) (@cx _ 9 _ _ (by rfl)) (@cx _ 8 _ _ (by rfl)) (A6 _)) (@Ao _ _ _ (@Au _ _ _ _ (@BC _ _ _))) (@A5 _)) (@Ao _ _ _ (@Au _ _ _ _ (@As _ _ _ _ _ _ _ _ (@Bk _) (@cx _ 3 _ _ (by rfl)) (@An _ _ _ _ _ _ _ _ _ _ D_coal_under (hr.mono (by decide)) rfl (@Ak _ _ _ (@A9 _ _ _ _ _ (@A4 _ _ _ _ _ _ _ _ _ (@cx _ 4 _ _ (by rfl)) (@cx _ 5 _ _ (by rfl)) (@cx _ 6 _ _ (by rfl)) (@A9 _ _ _ _ _ (@AA _ _ _ _ _ _ _ (@cx _ 7 _ _ (by rfl)) (@cx _ 8 _ _ (by rfl)) (@As _ _ _ _ _ _ _ _ (@A2 _) (@cx _ 9 _ _ (by rfl)) (@Ae _ _ _ _)) (by rfl))) (by rfl))) (by rfl)) (by decide) (by rfl) (by rfl))))))))),?_⟩
  rcases wr.split (Q' := fun _ _ => True) te with h | ⟨P,S,ok,so,r,ru,rfl⟩
  ·refine .inl ?_
   rcases h with h | h
   ·exact .inl h
   ·exact .inr h
  refine .inr ⟨p,P,S,ok,so,r,ru,fun tv H1 s1 rt => ?_⟩
  have fl := Ed ok so
  refine ⟨p,terms P S,fl,rt,fun no H2 s2 => ?_,fun yes f H2 s2 => ?_⟩
  ·have e' : AW P S = "way" := by unfold AW; rw [if_neg no]
   rw [e'] at te
   exact te.word (by decide) _ (s1.trans s2)
  have e' : AW P S = "told" := by unfold AW; rw [if_pos yes]
  rw [e'] at te
  have hp0 := ok.lo0
  have hp1 := ok.ls
  have hp2 := ok.sh
  have hp3 := ok.h4
  have sA := s1.trans s2
  obtain ⟨A,C,B,D,M,xc,rfl,hA,hC,rc,hB,hD,hM⟩ := Aa.terms (Aa.ev (Ev.same s2) _ _ rt)
  refine ⟨A,_,rfl,Af.of hA,rfl,_,_,rfl,_,_,rfl,_,_,rfl,_,_,rfl,M,_,rfl,Af.of hM,rfl,_,_,rfl,_,_,rfl,_,_,rfl,rfl,rfl,?_⟩
  refine ⟨rfl,⟨fun c => te.told rfl _ _ (.inl rfl) sA,fun c => ?_⟩⟩
  refine fun t1 ht1 t2 ht2 => ?_
  have n1 := Ab.new (o := .tup [.int (P.lo),.int (P.hi),.int (P.st + 1)]) ht1
  have n2 := Ab.new (o := .tup [.ref C,.ref B,.ref D,.ref t1]) ht2
  have n12 := n1.trans n2
  refine ⟨p,{ terms P S with st := P.st + 1 },Re fl (by omega) (by omega),Er Ai (n12 _ _ hC) (Ad.ev (Ev.same n12) _ _ rc) (n12 _ _ hB) (n12 _ _ hD) (n2 _ _ Ai),fun no => absurd (Ir (T := terms P S) (U := { terms P S with st := P.st + 1 }) rfl rfl (show P.st <= P.st + 1 by omega) (Int.le_refl _) (Int.le_refl _) yes) no,fun _ f2 ps H3 _ s3 => te.told rfl _ _ (.inr ⟨_,rfl⟩) (sA.trans (n12.trans s3))⟩
 ·exact h.elim
theorem Rp (F : Df K mg "more_drawn" s_more_drawn ["plant","story","hour"]) (T : Tx mg) (D_added : Fn P w K mg base 2 "added" ["row","at","units"] En) (D_coal_under : Dl P w K mg base) (DE_coal_or_refuse : DM P w K mg base ds) (DE_need_hour : AZ P w K mg base 3 "need_hour" ["story","hour"] (Ep ds)) (DE_terms_of : DL P w K mg base ds) : AZ P w K mg base 11 "more_drawn" ["plant","story","hour"] (Dm ds) := by
 refine F.fnE sc_more_drawn (fun vs H Q E h => ?_) (fun f cdv A outer s H vs Q E hr h => ?_)
 ·unfold Dm at h; split at h; rfl; exact h.elim
 unfold Dm at h
 split at h
 ·rename_i v u hh
  obtain ⟨p,d,w,rd,wr,te⟩ := h
  refine ⟨_,(@Aj _ _ _ _ _ (@AB _ _ (3) _ _ _ _ sc_more_drawn.nd rfl (Ay (by rfl)) (Ba Bc DE_terms_of (hr.mono (by decide)) rfl (@Al _ _ _ _ _ (@cx _ 0 _ _ (by rfl)) (@cx _ 1 _ _ (by rfl)) (by rfl))) (by rfl) (Az (by rfl))) (@Aj _ _ _ _ _ (@Br _ _ _ _ (Ba Bc DE_need_hour (hr.mono (by decide)) rfl (@Al _ _ _ _ _ (@cx _ 1 _ _ (by rfl)) (@cx _ 2 _ _ (by rfl)) (by rfl))) (by rfl)) (@Aj _ _ _ _ _ (@AB _ _ (4) _ _ _ _ sc_more_drawn.nd rfl (Ay (by rfl)) (Ba Bc DE_coal_or_refuse (hr.mono (by decide)) rfl (@Ak _ _ _ (@cx _ 3 _ _ (by rfl)) (by rfl))) (by rfl) (Az (by rfl))) (@Aj _ _ _ _ _ (@Bb _ _ _ _ _ _ (@cx _ 3 _ _ (by rfl)) (@AI _ K _ _ _ (4) _ (@Ah _ _ _ _ _ (@Ag _ _ _ 5 sc_more_drawn.nd (by rfl)) (@Ah _ _ _ _ _ (@Ag _ _ _ 6 sc_more_drawn.nd (by rfl)) (@Ah _ _ _ _ _ (@Ag _ _ _ 7 sc_more_drawn.nd (by rfl)) (@Ah _ _ _ _ _ (@Ag _ _ _ 8 sc_more_drawn.nd (by rfl)) (@AH _) (by rfl)) (by rfl)) (by rfl)) (by rfl)) (by rfl) (by rfl) (by rfl) (by rfl)) (by rfl) (by rfl) (by rfl)) (@Aj _ _ _ _ _ (@AB _ _ (9) _ _ _ _ sc_more_drawn.nd rfl (Ay (by rfl)) (@An _ _ _ _ _ _ _ _ _ _ D_coal_under (hr.mono (by decide)) rfl (@Ak _ _ _ (@A9 _ _ _ _ _ (@A4 _ _ _ _ _ _ _ _ _ (@cx _ 5 _ _ (by rfl)) (@cx _ 6 _ _ (by rfl)) (@An _ _ _ _ _ _ _ _ _ _ D_added (hr.mono (by decide)) rfl (@AA _ _ _ _ _ _ _ (@cx _ 7 _ _ (by rfl)) (@cx _ 2 _ _ (by rfl)) (@Ae _ _ _ _) (by rfl)) (by decide) (by rfl) (by rfl)) (@cx _ 8 _ _ (by rfl)) (by rfl))) (by rfl)) (by decide) (by rfl) (by rfl)) (by rfl) (Az (by rfl))) (@Ao _ _ _ (@Au _ _ _ _ (@DC _ _ _ _ _ _ _ _ (@A7 _ _ _ _ _ _ _ _ (@IS _) (@cx _ 9 _ _ (by rfl)) (@BC _ _ _) (A6 _)) (@BC _ _ _) (@As _ _ _ _ _ _ _ _ (@Bk _) (@cx _ 9 _ _ (by rfl)) (@cx _ 4 _ _ (by rfl))))))))))),?_⟩
  rcases wr.split (Q' := fun _ _ => True) te with h | ⟨P,S,ok,so,r,ru,rfl⟩
  ·refine .inl ?_
   rcases h with h | h
   ·exact .inl h
   ·exact .inr h
  refine .inr ⟨p,P,S,ok,so,r,ru,fun tv H1 s1 rt => ?_⟩
  have fl := Ed ok so
  refine ⟨p,S,P.bs.length,d,so,Aa.ev (Ev.same s1) _ _ ru,Aa.ev (Ev.same s1) _ _ rd,fun no Hh sh => ?_,fun ho Hh sh => ?_⟩
  ·have e' : Bj d P S = "hour" := by unfold Bj; rw [if_neg (by rw [no]; decide)]
   rw [e'] at te
   exact te.word (by decide) _ (s1.trans sh)
  have e0 : Bj d P S = AW P S := by unfold Bj; rw [if_pos ho]
  rw [e0] at te
  obtain ⟨i,rfl,i0,i1⟩ := EX ho
  have ehh : hh = .int i := by unfold Aa at rd; exact rd
  subst ehh
  obtain ⟨k,rfl⟩ : ∃ k : Nat,i = (k : Int) := ⟨i.toNat,by omega⟩
  have hk : k < S.ex.length := by omega
  have ldd : (draws P S).length = S.ex.length := B6
  have bdk := FB ok so _ (getD_mem (l := draws P S) (d := 0) (i := k) (by omega))
  have x8 := so.x8
  refine ⟨p,terms P S,fl,(Aa.ev (Ev.same sh) _ _ rt),fun no H2 s2 => ?_,fun yes f H2 s2 => ?_⟩
  ·have e' : AW P S = "way" := by unfold AW; rw [if_neg no]
   rw [e'] at te
   exact te.word (by decide) _ ((s1.trans sh).trans s2)
  have e' : AW P S = "told" := by unfold AW; rw [if_pos yes]
  rw [e'] at te
  have hp0 := ok.lo0
  have hp1 := ok.ls
  have hp2 := ok.sh
  have hp3 := ok.h4
  have sA := (s1.trans sh).trans s2
  obtain ⟨A,C,B,D,M,xc,rfl,hA,hC,rc,hB,hD,hM⟩ := Aa.terms (Aa.ev (Ev.same s2) _ _ (Aa.ev (Ev.same sh) _ _ rt))
  refine ⟨A,_,rfl,Af.of hA,rfl,_,_,rfl,_,_,rfl,_,_,rfl,_,_,rfl,rfl,?_⟩
  refine ⟨draws P S,k,rfl,by omega,by omega,hD,fun B2 H3 s3 k3 => fun t2 ht2 => ?_⟩
  have n2 := Ab.new (o := .tup [.ref C,.ref B,.ref B2,.ref M]) ht2
  have n12 := s3.trans n2
  have rep := Er (p := p) (T := { terms P S with ds := (draws P S).set k ((draws P S).getD k 0 + 1) }) Ai (n12 _ _ hC) (Ad.ev (Ev.same n12) _ _ rc) (n12 _ _ hB) (n2 _ _ k3) (n12 _ _ hM)
  refine ⟨p,_,KO fl (by omega) (by omega),rep,fun no H4 s4 => ⟨rfl,⟨fun _ => te.told rfl _ _ (.inl rfl) (sA.trans (n12.trans s4)),fun c => by simp at c⟩⟩,fun _ f2 ps H4 _ s4 => ⟨rfl,⟨fun c => by simp at c,fun _ => te.told rfl _ _ (.inr ⟨_,rfl⟩) (sA.trans (n12.trans s4))⟩⟩⟩
 ·exact h.elim
theorem Rq (F : Df K mg "less_drawn" s_less_drawn ["plant","story","hour"]) (T : Tx mg) (D_added : Fn P w K mg base 2 "added" ["row","at","units"] En) (D_coal_under : Dl P w K mg base) (DE_coal_or_refuse : DM P w K mg base ds) (DE_need_hour : AZ P w K mg base 3 "need_hour" ["story","hour"] (Ep ds)) (DE_terms_of : DL P w K mg base ds) : AZ P w K mg base 11 "less_drawn" ["plant","story","hour"] (Dm ds) := by
 refine F.fnE sc_less_drawn (fun vs H Q E h => ?_) (fun f cdv A outer s H vs Q E hr h => ?_)
 ·unfold Dm at h; split at h; rfl; exact h.elim
 unfold Dm at h
 split at h
 ·rename_i v u hh
  obtain ⟨p,d,w,rd,wr,te⟩ := h
  refine ⟨_,(@Aj _ _ _ _ _ (@AB _ _ (3) _ _ _ _ sc_less_drawn.nd rfl (Ay (by rfl)) (Ba Bc DE_terms_of (hr.mono (by decide)) rfl (@Al _ _ _ _ _ (@cx _ 0 _ _ (by rfl)) (@cx _ 1 _ _ (by rfl)) (by rfl))) (by rfl) (Az (by rfl))) (@Aj _ _ _ _ _ (@Br _ _ _ _ (Ba Bc DE_need_hour (hr.mono (by decide)) rfl (@Al _ _ _ _ _ (@cx _ 1 _ _ (by rfl)) (@cx _ 2 _ _ (by rfl)) (by rfl))) (by rfl)) (@Aj _ _ _ _ _ (@AB _ _ (4) _ _ _ _ sc_less_drawn.nd rfl (Ay (by rfl)) (Ba Bc DE_coal_or_refuse (hr.mono (by decide)) rfl (@Ak _ _ _ (@cx _ 3 _ _ (by rfl)) (by rfl))) (by rfl) (Az (by rfl))) (@Aj _ _ _ _ _ (@Bb _ _ _ _ _ _ (@cx _ 3 _ _ (by rfl)) (@AI _ K _ _ _ (4) _ (@Ah _ _ _ _ _ (@Ag _ _ _ 5 sc_less_drawn.nd (by rfl)) (@Ah _ _ _ _ _ (@Ag _ _ _ 6 sc_less_drawn.nd (by rfl)) (@Ah _ _ _ _ _ (@Ag _ _ _ 7 sc_less_drawn.nd (by rfl)) (@Ah _ _ _ _ _ (@Ag _ _ _ 8 sc_less_drawn.nd (by rfl)) (@AH _) (by rfl)) (by rfl)) (by rfl)) (by rfl)) (by rfl) (by rfl) (by rfl) (by rfl)) (by rfl) (by rfl) (by rfl)) (@Aj _ _ _ _ _ (@A8 _ _ _ _ _ _ _ _ (@A7 _ _ _ _ _ _ _ _ (@CT _) (@AD _ _ _ _ _ _ _ (@AT _ K (by rfl)) (@cx _ 7 _ _ (by rfl)) (@cx _ 2 _ _ (by rfl)) (fun _ _ => rfl)) (@Ae _ _ _ _) (A6 _)) (@Ao _ _ _ (@Au _ _ _ _ (@BC _ _ _))) (@A5 _)) (@Ao _ _ _ (@Au _ _ _ _ (@As _ _ _ _ _ _ _ _ (@Bk _) (@cx _ 4 _ _ (by rfl)) (@An _ _ _ _ _ _ _ _ _ _ D_coal_under (hr.mono (by decide)) rfl (@Ak _ _ _ (@A9 _ _ _ _ _ (@A4 _ _ _ _ _ _ _ _ _ (@cx _ 5 _ _ (by rfl)) (@cx _ 6 _ _ (by rfl)) (@An _ _ _ _ _ _ _ _ _ _ D_added (hr.mono (by decide)) rfl (@AA _ _ _ _ _ _ _ (@cx _ 7 _ _ (by rfl)) (@cx _ 2 _ _ (by rfl)) (@IJ _ _ _ _ _ _ (@IM _) (@Ae _ _ _ _)) (by rfl)) (by decide) (by rfl) (by rfl)) (@cx _ 8 _ _ (by rfl)) (by rfl))) (by rfl)) (by decide) (by rfl) (by rfl)))))))))),?_⟩
  rcases wr.split (Q' := fun _ _ => True) te with h | ⟨P,S,ok,so,r,ru,rfl⟩
  ·refine .inl ?_
   rcases h with h | h
   ·exact .inl h
   ·exact .inr h
  refine .inr ⟨p,P,S,ok,so,r,ru,fun tv H1 s1 rt => ?_⟩
  have fl := Ed ok so
  refine ⟨p,S,P.bs.length,d,so,Aa.ev (Ev.same s1) _ _ ru,Aa.ev (Ev.same s1) _ _ rd,fun no Hh sh => ?_,fun ho Hh sh => ?_⟩
  ·have e' : Bj d P S = "hour" := by unfold Bj; rw [if_neg (by rw [no]; decide)]
   rw [e'] at te
   exact te.word (by decide) _ (s1.trans sh)
  have e0 : Bj d P S = AW P S := by unfold Bj; rw [if_pos ho]
  rw [e0] at te
  obtain ⟨i,rfl,i0,i1⟩ := EX ho
  have ehh : hh = .int i := by unfold Aa at rd; exact rd
  subst ehh
  obtain ⟨k,rfl⟩ : ∃ k : Nat,i = (k : Int) := ⟨i.toNat,by omega⟩
  have hk : k < S.ex.length := by omega
  have ldd : (draws P S).length = S.ex.length := B6
  have bdk := FB ok so _ (getD_mem (l := draws P S) (d := 0) (i := k) (by omega))
  have x8 := so.x8
  refine ⟨p,terms P S,fl,(Aa.ev (Ev.same sh) _ _ rt),fun no H2 s2 => ?_,fun yes f H2 s2 => ?_⟩
  ·have e' : AW P S = "way" := by unfold AW; rw [if_neg no]
   rw [e'] at te
   exact te.word (by decide) _ ((s1.trans sh).trans s2)
  have e' : AW P S = "told" := by unfold AW; rw [if_pos yes]
  rw [e'] at te
  have hp0 := ok.lo0
  have hp1 := ok.ls
  have hp2 := ok.sh
  have hp3 := ok.h4
  have sA := (s1.trans sh).trans s2
  obtain ⟨A,C,B,D,M,xc,rfl,hA,hC,rc,hB,hD,hM⟩ := Aa.terms (Aa.ev (Ev.same s2) _ _ (Aa.ev (Ev.same sh) _ _ rt))
  refine ⟨A,_,rfl,Af.of hA,rfl,_,_,rfl,_,_,rfl,_,_,rfl,_,_,rfl,rfl,?_⟩
  refine ⟨D,_,_,.int ((draws P S).getD k 0),rfl,rfl,Af.of hD,Go (ns := draws P S) (by omega),rfl,⟨fun c => te.told rfl _ _ (.inl rfl) sA,fun c => ?_⟩⟩
  have c' : (draws P S).getD k 0 ≠ 0 := fun z => by
   rw [CM,z] at c
   simp at c
  refine ⟨1,rfl,draws P S,k,rfl,by omega,by omega,hD,fun B2 H3 s3 k3 => fun t2 ht2 => ?_⟩
  have n2 := Ab.new (o := .tup [.ref C,.ref B,.ref B2,.ref M]) ht2
  have n12 := s3.trans n2
  have rep := Er (p := p) (T := { terms P S with ds := (draws P S).set k ((draws P S).getD k 0 + -1) }) Ai (n12 _ _ hC) (Ad.ev (Ev.same n12) _ _ rc) (n12 _ _ hB) (n2 _ _ k3) (n12 _ _ hM)
  refine ⟨p,_,KO fl (by omega) (by omega),rep,fun no => absurd (HY (T := terms P S) (U := { terms P S with ds := (draws P S).set k ((draws P S).getD k 0 + -1) }) (by show (draws P S).length = ((draws P S).set k _).length; rw [List.length_set]) (fun i => ?_) rfl (fun i => Int.le_refl _) (Int.le_refl _) (Int.le_refl _) (Int.le_refl _) yes) no,fun _ f2 ps H4 _ s4 => te.told rfl _ _ (.inr ⟨_,rfl⟩) (sA.trans (n12.trans s4))⟩
  show ((draws P S).set k _).getD i 0 <= (draws P S).getD i 0
  rw [Ky (by omega)]
  split
  ·rename_i z; rw [z]; omega
  ·exact Int.le_refl _
 ·exact h.elim
theorem Rs (F : Df K mg "better" s_better ["plant","story","boiler","hour"]) (T : Tx mg) (D_added : Fn P w K mg base 2 "added" ["row","at","units"] En) (D_coal_under : Dl P w K mg base) (D_replaced : Fn P w K mg base 1 "replaced" ["row","at","part"] EV) (DE_coal_or_refuse : DM P w K mg base ds) (DE_need_boiler : AZ P w K mg base 3 "need_boiler" ["plant","boiler"] (GE ds)) (DE_need_hour : AZ P w K mg base 3 "need_hour" ["story","hour"] (Ep ds)) (DE_terms_of : DL P w K mg base ds) : AZ P w K mg base 11 "better" ["plant","story","boiler","hour"] (GF ds) := by
 refine F.fnE sc_better (fun vs H Q E h => ?_) (fun f cdv A outer s H vs Q E hr h => ?_)
 ·unfold GF at h; split at h; rfl; exact h.elim
 unfold GF at h
 split at h
 ·rename_i v u bb hh
  obtain ⟨p,e,d,w,rb',rd,wr,te⟩ := h
  refine ⟨_,(@Aj _ _ _ _ _ (@AB _ _ (4) _ _ _ _ sc_better.nd rfl (Ay (by rfl)) (Ba Bc DE_terms_of (hr.mono (by decide)) rfl (@Al _ _ _ _ _ (@cx _ 0 _ _ (by rfl)) (@cx _ 1 _ _ (by rfl)) (by rfl))) (by rfl) (Az (by rfl))) (@Aj _ _ _ _ _ (@Br _ _ _ _ (Ba Bc DE_need_boiler (hr.mono (by decide)) rfl (@Al _ _ _ _ _ (@cx _ 0 _ _ (by rfl)) (@cx _ 2 _ _ (by rfl)) (by rfl))) (by rfl)) (@Aj _ _ _ _ _ (@Br _ _ _ _ (Ba Bc DE_need_hour (hr.mono (by decide)) rfl (@Al _ _ _ _ _ (@cx _ 1 _ _ (by rfl)) (@cx _ 3 _ _ (by rfl)) (by rfl))) (by rfl)) (@Aj _ _ _ _ _ (@AB _ _ (5) _ _ _ _ sc_better.nd rfl (Ay (by rfl)) (Ba Bc DE_coal_or_refuse (hr.mono (by decide)) rfl (@Ak _ _ _ (@cx _ 4 _ _ (by rfl)) (by rfl))) (by rfl) (Az (by rfl))) (@Aj _ _ _ _ _ (@Bb _ _ _ _ _ _ (@cx _ 4 _ _ (by rfl)) (@AI _ K _ _ _ (4) _ (@Ah _ _ _ _ _ (@Ag _ _ _ 6 sc_better.nd (by rfl)) (@Ah _ _ _ _ _ (@Ag _ _ _ 7 sc_better.nd (by rfl)) (@Ah _ _ _ _ _ (@Ag _ _ _ 8 sc_better.nd (by rfl)) (@Ah _ _ _ _ _ (@Ag _ _ _ 9 sc_better.nd (by rfl)) (@AH _) (by rfl)) (by rfl)) (by rfl)) (by rfl)) (by rfl) (by rfl) (by rfl) (by rfl)) (by rfl) (by rfl) (by rfl)) (@Aj _ _ _ _ _ (@AB _ _ (10) _ _ _ _ sc_better.nd rfl (Ay (by rfl)) (@An _ _ _ _ _ _ _ _ _ _ D_replaced (hr.mono (by decide)) rfl (@AA _ _ _ _ _ _ _ (@cx _ 6 _ _ (by rfl)) (@cx _ 3 _ _ (by rfl)) (@An _ _ _ _ _ _ _ _ _ _ D_added (hr.mono (by decide)) rfl (@AA _ _ _ _ _ _ _ (@AD _ _ _ _ _ _ _ (@AT _ K (by rfl)) (@cx _ 6 _ _ (by rfl)) (@cx _ 3 _ _ (by rfl)) (fun _ _ => rfl)) (@cx _ 2 _ _ (by rfl)) (@Ae _ _ _ _) (by rfl)) (by decide) (by rfl) (by rfl)) (by rfl)) (by decide) (by rfl) (by rfl)) (by rfl) (Az (by rfl))) (@Ao _ _ _ (@Au _ _ _ _ (@As _ _ _ _ _ _ _ _ (@Bk _) (@cx _ 5 _ _ (by rfl)) (@An _ _ _ _ _ _ _ _ _ _ D_coal_under (hr.mono (by decide)) rfl (@Ak _ _ _ (@A9 _ _ _ _ _ (@A4 _ _ _ _ _ _ _ _ _ (@cx _ 10 _ _ (by rfl)) (@cx _ 7 _ _ (by rfl)) (@cx _ 8 _ _ (by rfl)) (@cx _ 9 _ _ (by rfl)) (by rfl))) (by rfl)) (by decide) (by rfl) (by rfl))))))))))),?_⟩
  rcases wr.split (Q' := fun _ _ => True) te with h | ⟨P,S,ok,so,r,ru,rfl⟩
  ·refine .inl ?_
   rcases h with h | h
   ·exact .inl h
   ·exact .inr h
  refine .inr ⟨p,P,S,ok,so,r,ru,fun tv H1 s1 rt => ?_⟩
  have fl := Ed ok so
  refine ⟨p,P,e,ok,Aa.ev (Ev.same s1) _ _ r,Aa.ev (Ev.same s1) _ _ rb',fun no H2 s2 => ?_,fun bo Hb sb => ?_⟩
  ·have e' : B3 e d P S = "boiler" := by unfold B3; rw [if_neg (by rw [no]; decide)]
   rw [e'] at te
   exact te.word (by decide) _ (s1.trans s2)
  have e1 : B3 e d P S = Bj d P S := by unfold B3; rw [if_pos bo]
  rw [e1] at te
  obtain ⟨j,rfl,j0,j1⟩ := EX bo
  have ebb : bb = .int j := by unfold Aa at rb'; exact rb'
  subst ebb
  obtain ⟨jn,rfl⟩ : ∃ k : Nat,j = (k : Int) := ⟨j.toNat,by omega⟩
  have hj : jn < P.bs.length := by omega
  have s1b := s1.trans sb
  refine ⟨p,S,P.bs.length,d,so,Aa.ev (Ev.same s1b) _ _ ru,Aa.ev (Ev.same s1b) _ _ rd,fun no Hh sh => ?_,fun ho Hh sh => ?_⟩
  ·have e' : Bj d P S = "hour" := by unfold Bj; rw [if_neg (by rw [no]; decide)]
   rw [e'] at te
   exact te.word (by decide) _ (s1b.trans sh)
  have e0 : Bj d P S = AW P S := by unfold Bj; rw [if_pos ho]
  rw [e0] at te
  obtain ⟨i,rfl,i0,i1⟩ := EX ho
  have ehh : hh = .int i := by unfold Aa at rd; exact rd
  subst ehh
  obtain ⟨k,rfl⟩ : ∃ k : Nat,i = (k : Int) := ⟨i.toNat,by omega⟩
  have hk : k < S.ex.length := by omega
  have ldd : (draws P S).length = S.ex.length := B6
  have bdk := FB ok so _ (getD_mem (l := draws P S) (d := 0) (i := k) (by omega))
  have x8 := so.x8
  refine ⟨p,terms P S,fl,(Aa.ev (Ev.same (sb.trans sh)) _ _ rt),fun no H2 s2 => ?_,fun yes f H2 s2 => ?_⟩
  ·have e' : AW P S = "way" := by unfold AW; rw [if_neg no]
   rw [e'] at te
   exact te.word (by decide) _ ((s1b.trans sh).trans s2)
  have e' : AW P S = "told" := by unfold AW; rw [if_pos yes]
  rw [e'] at te
  have hp0 := ok.lo0
  have hp1 := ok.ls
  have hp2 := ok.sh
  have hp3 := ok.h4
  have sA := (s1b.trans sh).trans s2
  obtain ⟨A,C,B,D,M,xc,rfl,hA,hC,rc,hB,hD,hM⟩ := Aa.terms (Aa.ev (Ev.same s2) _ _ (Aa.ev (Ev.same (sb.trans sh)) _ _ rt))
  refine ⟨A,_,rfl,Af.of hA,rfl,_,_,rfl,_,_,rfl,_,_,rfl,_,_,rfl,rfl,?_⟩
  have b4 := ok.b4
  have hrow : (caps P S)[k]? = some (BN P.bs S.fs k) := Fx hk
  obtain ⟨cr,lr⟩ := FA (S := S) ok _ (List.mem_of_getElem? hrow)
  obtain ⟨y,hy,ry⟩ := rc.get (i := k) (d := A3 (BN P.bs S.fs k)) (by rw [List.getElem?_map]; show (caps P S)[k]?.map A3 = _; rw [hrow]; rfl)
  obtain ⟨Cn,rfl,hCn⟩ := Aa.ofRow' ry
  have lxc := rc.len
  rw [List.length_map] at lxc
  have lcs : (terms P S).cs.length = S.ex.length := DE
  generalize BN P.bs S.fs k = row at hrow cr lr hCn
  refine ⟨C,xc,(k : Int),.ref Cn,rfl,rfl,Af.of hC,Dv hy,row,jn,rfl,by omega,by omega,hCn,fun B2 H3 s3 k3 => ⟨xc,k,rfl,by omega,by omega,s3 _ _ hC,fun C2 H4 s4 k4 => ?_⟩⟩
  have s34 := s3.trans s4
  refine fun t2 ht2 => ?_
  have n2 := Ab.new (o := .tup [.ref C2,.ref B,.ref D,.ref M]) ht2
  have n12 := s34.trans n2
  have bj := cr _ (getD_mem (l := row) (d := 0) (i := jn) (by omega))
  have rcs : Ad p (upd H4 t2 (.tup [.ref C2,.ref B,.ref D,.ref M])) (((caps P S).set k (row.set jn (row.getD jn 0 + 1))).map A3) (xc.set k (.ref B2)) := by
   rw [List.map_set]
   exact KN (Aa.row ((s4.trans n2) _ _ k3)) k (Ad.ev (Ev.same n12) _ _ rc)
  have fl2 : BG { terms P S with cs := (caps P S).set k (row.set jn (row.getD jn 0 + 1)) } := Rf fl (by rw [List.length_set,lr]; show P.bs.length = (P.bs.map (·.2)).length; rw [List.length_map]) fun c hc => by
   rcases List.mem_or_eq_of_mem_set hc with hc | rfl
   ·have := cr c hc; omega
   ·omega
  have rep := Er (p := p) (T := { terms P S with cs := (caps P S).set k (row.set jn (row.getD jn 0 + 1)) }) Ai (n2 _ _ k4) rcs (n12 _ _ hB) (n12 _ _ hD) (n12 _ _ hM)
  refine ⟨p,_,fl2,rep,fun no => absurd (HY (T := terms P S) (U := { terms P S with cs := (caps P S).set k (row.set jn (row.getD jn 0 + 1)) }) rfl (fun i => Int.le_refl _) (by show (caps P S).length = ((caps P S).set k _).length; rw [List.length_set]) (fun i => ?_) (Int.le_refl _) (Int.le_refl _) (Int.le_refl _) yes) no,fun _ f2 ps H5 _ s5 => te.told rfl _ _ (.inr ⟨_,rfl⟩) (sA.trans (n12.trans s5))⟩
  show ((caps P S).getD i []).sum <= (((caps P S).set k (row.set jn (row.getD jn 0 + 1))).getD i []).sum
  rw [Ky (by rw [DE]; exact hk)]
  split
  ·rename_i z
   rw [z,List.getD_eq_getElem?_getD,hrow,Rg (by omega)]
   show row.sum <= _
   omega
  ·exact Int.le_refl _
 ·exact h.elim
end
end MF
end
section
namespace MF
open PySem PySem.Spec PyProof.Rows L2
variable {p M : Addr} {H H' : Hp} {v u : V} {g : PL -> SY -> Str}
theorem Iu {TB : Addr} {ql : Str} (h : AU p H) (t : TabIn H TB ql) (g : ∀ b o,H b = some o -> b ≠ TB -> H' b = some o) : AU p H' := by
 obtain ⟨l,f,e⟩ := h
 refine ⟨l,f,g _ _ e fun z => ?_⟩
 obtain ⟨ps,h1,_⟩ := t
 rw [z,h1] at e; cases e
theorem AU.own {a : Addr} {o : HO} (h : AU p H) (n : a ≠ p) : AU p (upd H a o) := by
 obtain ⟨l,f,e⟩ := h; exact ⟨l,f,by rw [Ap (Ne.symm n)]; exact e⟩
def Dn (P : PL) : PL := ⟨P.bs,List.replicate 4 (9,0,1),P.lo,P.lo,P.lo⟩
def CQ (S : SY) : SY := ⟨20 :: S.ex.drop 1,S.fs⟩
theorem Rt {P : PL} (ok : P.ok) : (Dn P).ok := by
 have h0 := ok.lo0
 have h1 := ok.ls
 have h2 := ok.sh
 have h3 := ok.h4
 refine ⟨ok.b,ok.b1,ok.b4,fun q hq => ?_,by show (List.replicate 4 _).length <= 4; rw [List.length_replicate]; decide,h0,Int.le_refl _,Int.le_refl _,by show P.lo <= 40; omega⟩
 rw [(List.mem_replicate.mp hq).2]; decide
theorem Ru {S : SY} {n : Nat} (so : S.ok n) : (CQ S).ok n := by
 have x1 := so.x1
 have x8 := so.x8
 have le : (CQ S).ex.length = S.ex.length := by show (20 :: S.ex.drop 1).length = _; rw [List.length_cons,List.length_drop]; omega
 refine ⟨by omega,by omega,fun u hu => ?_,so.f4,fun x hx => by rw [le]; exact so.f x hx⟩
 rcases List.mem_cons.mp hu with rfl | hu
 ·decide
 ·exact so.x u (List.mem_of_mem_drop hu)
def GG : Sp := fun vs H Q _ => match vs with | [v,u] => ∃ p P S,PL.ok P /\ SY.ok S P.bs.length /\ Aa p H P.d v /\ Aa p H S.d u /\ ∀ t H' v' u',Ab H H' -> H' t = some (.tup [v',u']) -> Aa p H' (Dn P).d v' -> Aa p H' (CQ S).d u' -> Q (.ref t) H' | _ => False
abbrev CH : Str := (("_law_four" : Str) ++ ".<locals>.") ++ "<lambda>"
def Do (g1 g2 g3 : Str) : List Str := [g1,g1,g1,g2,g2,g3]
def Rv (p : Addr) (H : Hp) (v u : V) (e d : PyData) (ws : List Str) : Prop := ∃ w1 w2 w3,Cb p H v u AW w1 /\ Cb p H v u (Bj d) w2 /\ Cb p H v u (B3 e d) w3 /\ ws = Do w1 w2 w3
def EZ (TB : Addr) : Sp := fun vs H Q _ => match vs with | [v,u,b,h] => ∃ p e d ws,Aa p H e b /\ Aa p H d h /\ AU p H /\ TabIn H TB CH /\ Rv p H v u e d ws /\ ∀ R H' xs ds,Av p H H' -> AU p H' -> TabIn H' TB CH -> H R = none -> R ≠ p -> H' R = some (.lst xs) -> Ad p H' ds xs -> Paired BB ws ds -> Q (.ref R) H' | _ => False
def Co (w : Str) : Prop := w = "told" \/ w = "plant" \/ w = "story" \/ w = "hour" \/ w = "boiler" \/ w = "way"
theorem KP (P : PL) (S : SY) : Co (AW P S) := by unfold AW Co; split <;> simp
theorem KQ (d : PyData) (P : PL) (S : SY) : Co (Bj d P S) := by
 unfold Bj
 split
 ·exact KP P S
 ·unfold Co; simp
theorem Rw (b d : PyData) (P : PL) (S : SY) : Co (B3 b d P S) := by
 unfold B3
 split
 ·exact KQ d P S
 ·unfold Co; simp
theorem Cb.good {w : Str} (h : Cb p H v u g w) (hg : ∀ P S,Co (g P S)) : Co w := by
 rcases h with ⟨d,r,hp,rfl⟩ | ⟨P,d,ok,r,ru,fs,hs,rfl⟩ | ⟨P,S,_,_,_,_,rfl⟩
 ·unfold Co; simp
 ·unfold Co; simp
 ·exact hg P S
theorem Cb.evT {w : Str} (h : Cb p H v u g w) (e : Av p H H') : Cb p H' v u g w := by
 rcases h with ⟨d,r,hp,hw⟩ | ⟨P,d,ok,r,ru,fs,hs,hw⟩ | ⟨P,S,ok,so,r,ru,hw⟩
 ·exact .inl ⟨d,Aa.evT e _ _ r,hp,hw⟩
 ·exact .inr (.inl ⟨P,d,ok,Aa.evT e _ _ r,Aa.evT e _ _ ru,fs,hs,hw⟩)
 ·exact .inr (.inr ⟨P,S,ok,so,Aa.evT e _ _ r,Aa.evT e _ _ ru,hw⟩)
theorem Rx {K : PySem.W.Frag} {mg : Str -> Option Value} {ds : List Addr} (C : Tc K mg M ds) {w : Str} (g : Co w) (n : w ≠ "told") : Wd K M ds (ds.getD (KM w) 0) w := by
 rcases g with rfl | rfl | rfl | rfl | rfl | rfl
 ·exact absurd rfl n
 ·exact ⟨0,by decide,rfl,rfl,C.w_NoPlant⟩
 ·exact ⟨1,by decide,rfl,rfl,C.w_NoStory⟩
 ·exact ⟨3,by decide,rfl,rfl,C.w_NoHour⟩
 ·exact ⟨4,by decide,rfl,rfl,C.w_NoBoiler⟩
 ·exact ⟨6,by decide,rfl,rfl,C.w_NoWay⟩
theorem Es {K : PySem.W.Frag} {mg : Str -> Option Value} {M : Addr} {ds : List Addr} (C : Tc K mg M ds) {p : Addr} {w : Str} (g : Co w) {H1 : Hp} {Q : VK} (h : ∀ t H' d,Ab H1 H' -> Aa p H' d (.ref t) -> BB w d -> Q (.ref t) H') : EY ds w H1 (FN Q) (EO (Wd K M ds) Q) := by
 refine ⟨fun e x H' hx s' t ht => ?_,fun n H' s' => ⟨_,w,rfl,Rx C g n,fun H3 t s3 k3 => h t H3 _ (s'.trans s3) (Aa.tup k3 (.cons Aa.str .nil)) (.inr ⟨n,rfl⟩)⟩⟩
 have nt := Ab.new (o := .tup [.str "told",x]) ht
 rcases hx with rfl | ⟨k,rfl⟩
 ·exact h t _ (.tuple [.str "told",.none]) (s'.trans nt) (Aa.tup Ai (.cons Aa.str (.cons Aa.non .nil))) (.inl ⟨e,.none,.inl rfl,rfl⟩)
 ·exact h t _ (.tuple [.str "told",.int k]) (s'.trans nt) (Aa.tup Ai (.cons Aa.str (.cons Aa.int .nil))) (.inl ⟨e,.int k,.inr ⟨k,rfl⟩,rfl⟩)
def Iv (d : PyData) : Prop := ∃ w,BB w d
theorem KR {w : Str} {d : PyData} (o : BB w d) : Iv d := ⟨w,o⟩
theorem KS {p W : Addr} {H H' : Hp} {d : PyData} {v : V} (s : Ev W H H') (r : Aa p H d v) (o : Iv d) : Aa p H' d v := by
 obtain ⟨w,⟨_,x,hx,rfl⟩ | ⟨_,rfl⟩⟩ := o
 ·obtain ⟨a,ys,rfl,ha,rs⟩ := Aa.shape r
  refine Aa.tup (s.tup ha) ?_
  obtain ⟨y1,y2,rfl,r1,r2⟩ := Ad.two rs
  rcases hx with rfl | ⟨k,rfl⟩
  ·unfold Aa at r1 r2; subst r1 r2; exact .cons Aa.str (.cons Aa.non .nil)
  ·unfold Aa at r1 r2; subst r1 r2; exact .cons Aa.str (.cons Aa.int .nil)
 ·obtain ⟨a,ys,rfl,ha,rs⟩ := Aa.shape r
  refine Aa.tup (s.tup ha) ?_
  unfold Ad at rs
  obtain ⟨y1,t,rfl,r1,r2⟩ := rs
  unfold Aa at r1; subst r1
  unfold Ad at r2; subst r2
  exact .cons Aa.str .nil
theorem KT {p W : Addr} {H H' : Hp} (s : Ev W H H') : ∀ {ds : List PyData} {ws : List Str} {xs : List V},Ad p H ds xs -> Paired BB ws ds -> Ad p H' ds xs
 | [],_,xs,r,_ => by unfold Ad at r ⊢; exact r
 | d :: ds,_,xs,r,.cons o t => by
  unfold Ad at r
  obtain ⟨x,l,rfl,rx,rl⟩ := r
  exact .cons (KS s rx (KR o)) (KT s rl t)
structure GH (p TB W : Addr) (H0 H : Hp) (xs : List V) (ds : List PyData) (ws : List Str) : Prop where
 ev : Av p H0 H
 pen : AU p H
 tab : TabIn H TB CH
 at' : H W = some (.lst xs)
 rs : Ad p H ds xs
 out : Paired BB ws ds
 n0 : H0 W = none
 nW : W ≠ p
theorem KU {α β : Type} {R : α -> β -> Prop} {a : α} {b : β} (h : R a b) : ∀ {as : List α} {bs : List β},Paired R as bs -> Paired R (as ++ [a]) (bs ++ [b])
 | _,_,.nil => .cons h .nil
 | _,_,.cons r t => .cons r (KU h t)
theorem GH.step {TB W : Addr} {H0 H1 H2 : Hp} {xs : List V} {ds : List PyData} {ws : List Str} {w : Str} {d : PyData} {t : Addr} (G : GH p TB W H0 H xs ds ws) (T1 : TabIn H1 TB CH) (g1 : ∀ b o,H b = some o -> b ≠ TB -> H1 b = some o) (s : Ab H1 H2) (r : Aa p H2 d (.ref t)) (o : BB w d) : H2 W = some (.lst xs) /\ GH p TB W H0 (upd H2 W (.lst (xs ++ [.ref t]))) (xs ++ [.ref t]) (ds ++ [d]) (ws ++ [w]) := by
 have eg := Av.grow (p := p) G.tab g1
 have k2 : H2 W = some (.lst xs) := s _ _ (eg.lst G.at' G.nW)
 have evW : Ev W H2 (upd H2 W (.lst (xs ++ [.ref t]))) := Ev.pen k2
 have nol : ∀ {d : PyData} {v : V},Aa p H2 d v -> Iv d -> Aa p (upd H2 W (.lst (xs ++ [.ref t]))) d v := fun {d v} r o => KS (s := evW) r o
 refine ⟨k2,(G.ev.trans (eg.trans (Av.same s))).own G.n0 evW,((Iu G.pen G.tab g1).same s).own G.nW,(T1.same s).ev evW,Ai,?_,KU o G.out,G.n0,G.nW⟩
 refine Ad.snoc ?_ (nol r (KR o))
 exact KT (s := evW) (Ad.ev (Ev.same s) _ _ (Ad.evT eg _ _ G.rs)) G.out
theorem Ry {TB vs H Q E} (h : EZ TB vs H Q E) : vs.length = 4 := by unfold EZ at h; split at h; rfl; exact h.elim
section
variable {P : Program} {w : World} {K : PySem.W.Frag} {mg : Str -> Option Value} {base : Heap}
theorem Rz : Ax ["_law_plant_here","_law_story_here"] ["_law_plant_here","_law_story_here"] (Aq s__law_dry) := AF
theorem RA (F : Df K mg "_law_dry" s__law_dry ["_law_plant_here","_law_story_here"]) (T : Tx mg)  : Fn P w K mg base 1 "_law_dry" ["_law_plant_here","_law_story_here"] GG := by
 refine F.fn Rz (fun vs H Q E h => ?_) (fun f cdv A outer s H vs Q E hr h => ?_)
 ·unfold GG at h; split at h; rfl; exact h.elim
 refine ⟨_,(@Ao _ _ _ (@Au _ _ _ _ (@AV _ _ _ _ _ (@Al _ _ _ _ _ (@As _ _ _ _ _ _ _ _ (@DD _) (@Cy _ _ _ _ _ _ _ _ _ _ (@s_tup _) (@cx _ 0 _ _ (by rfl)) (@C9 _) (@BU _ _ _ (@Ae _ _ _ _))) (@AV _ _ _ _ _ (@Al _ _ _ _ _ (@As _ _ _ _ _ _ _ _ (@HE _) (@AV _ _ _ _ _ (@Ak _ _ _ (@AV _ _ _ _ _ (@AA _ _ _ _ _ _ _ (@Ae _ _ _ _) (@Ae _ _ _ _) (@Ae _ _ _ _) (by rfl))) (by rfl))) (@Ae _ _ _ _)) (@AV _ _ _ _ _ (@AA _ _ _ _ _ _ _ (@AD _ _ _ _ _ _ _ (@AT _ K (by rfl)) (@AD _ _ _ _ _ _ _ (@AT _ K (by rfl)) (@cx _ 0 _ _ (by rfl)) (@Ae _ _ _ _) (fun _ _ => rfl)) (@Ae _ _ _ _) (fun _ _ => rfl)) (@AD _ _ _ _ _ _ _ (@AT _ K (by rfl)) (@AD _ _ _ _ _ _ _ (@AT _ K (by rfl)) (@cx _ 0 _ _ (by rfl)) (@Ae _ _ _ _) (fun _ _ => rfl)) (@Ae _ _ _ _) (fun _ _ => rfl)) (@AD _ _ _ _ _ _ _ (@AT _ K (by rfl)) (@AD _ _ _ _ _ _ _ (@AT _ K (by rfl)) (@cx _ 0 _ _ (by rfl)) (@Ae _ _ _ _) (fun _ _ => rfl)) (@Ae _ _ _ _) (fun _ _ => rfl)) (by rfl))) (by rfl)))) (@AV _ _ _ _ _ (@Al _ _ _ _ _ (@As _ _ _ _ _ _ _ _ (@DD _) (@AV _ _ _ _ _ (@Ak _ _ _ (@Ae _ _ _ _) (by rfl))) (@Cy _ _ _ _ _ _ _ _ _ _ (@s_tup _) (@AD _ _ _ _ _ _ _ (@AT _ K (by rfl)) (@cx _ 1 _ _ (by rfl)) (@Ae _ _ _ _) (fun _ _ => rfl)) (@BU _ _ _ (@Ae _ _ _ _)) (@C9 _))) (@AD _ _ _ _ _ _ _ (@AT _ K (by rfl)) (@cx _ 1 _ _ (by rfl)) (@Ae _ _ _ _) (fun _ _ => rfl)) (by rfl))) (by rfl))))),?_⟩
 unfold GG at h
 split at h
 ·rename_i v u
  obtain ⟨p,P,S,ok,so,r,ru,q⟩ := h
  have x1 := so.x1
  have x8 := so.x8
  obtain ⟨PA,PB,PE,PM,xb,xe,rfl,pA,pB,rb,pE,re,pM⟩ := Aa.plant r
  obtain ⟨A,B,E,xf,rfl,hA,hB,hE,rf⟩ := Aa.story ru
  refine ⟨1,rfl,PA,_,rfl,pA,fun t1 H1 s1 k1 => fun t2 H2 s2 k2 => fun t3 H3 s3 k3 => ⟨t3,4,[.ref t2],rfl,rfl,k3,by simp,by decide,by decide,(show 1 <= 100 from by decide),fun t4 H4 s4 k4 => ?_⟩⟩
  have k1' : H1 t1 = some (.tup [.ref PB]) := by rw [k1]; exact congrArg (fun z => some (HO.tup z)) (Ib (i := 1))
  have k4' : H4 t4 = some (.tup [.ref t2,.ref t2,.ref t2,.ref t2]) := k4
  have s14 := s1.trans (s2.trans (s3.trans s4))
  refine ⟨PA,_,2,.ref PM,rfl,rfl,Af.of (s14 _ _ pA),rfl,PM,_,0,.int P.lo,rfl,rfl,Af.of (s14 _ _ pM),rfl,PA,_,2,.ref PM,rfl,rfl,Af.of (s14 _ _ pA),rfl,PM,_,0,.int P.lo,rfl,rfl,Af.of (s14 _ _ pM),rfl,PA,_,2,.ref PM,rfl,rfl,Af.of (s14 _ _ pA),rfl,PM,_,0,.int P.lo,rfl,rfl,Af.of (s14 _ _ pM),rfl,fun t5 H5 s5 k5 => fun t6 H6 s6 k6 => ⟨t1,t6,_,_,rfl,rfl,(s2.trans (s3.trans (s4.trans (s5.trans s6)))) _ _ k1',k6,(show 1 + 2 <= 1000 from by decide),fun t7 H7 s7 k7 => fun t8 H8 s8 k8 => ?_⟩⟩
  have s18 := s14.trans (s5.trans (s6.trans (s7.trans s8)))
  refine ⟨A,_,0,.ref B,rfl,rfl,Af.of (s18 _ _ hA),rfl,1,rfl,B,_,rfl,s18 _ _ hB,fun t9 H9 s9 k9 => ?_⟩
  rw [OU] at k9
  refine ⟨t8,t9,_,_,rfl,rfl,s9 _ _ k8,k9,by rw [List.length_drop,List.length_map]; show 1 + _ <= 1000; omega,fun t10 H10 s10 k10 => ?_⟩
  have s110 := s18.trans (s9.trans s10)
  refine ⟨A,_,1,.ref E,rfl,rfl,Af.of (s110 _ _ hA),rfl,fun t11 H11 s11 k11 => fun t12 H12 s12 k12 => ?_⟩
  have e1112 := s11.trans s12
  have s712 := s8.trans (s9.trans (s10.trans e1112))
  have s512 := s6.trans (s7.trans s712)
  have s412 := s5.trans s512
  have s212 := s3.trans (s4.trans s412)
  have sall := s110.trans e1112
  have k10' : H10 t10 = some (.tup ((20 :: S.ex.drop 1).map V.int)) := by rw [k10,List.map_cons,List.map_drop]; rfl
  refine q t12 H12 (.ref t7) (.ref t11) sall k12 ?_ ?_
  ·refine Aa.tup (s712 _ _ k7) (.cons (Aa.tup (sall _ _ pB) (Ad.ev (Ev.same sall) _ _ rb)) (.cons (Aa.tup (s412 _ _ k4') ?_) (.cons (Aa.tup (s512 _ _ k5) (.cons Aa.int (.cons Aa.int (.cons Aa.int .nil)))) .nil)))
   have re : Aa p H12 (eD (9,0,1)) (.ref t2) := Aa.tup (s212 _ _ k2) (.cons Aa.int (.cons Aa.int (.cons Aa.int .nil)))
   exact .cons re (.cons re (.cons re (.cons re .nil)))
  ·exact Aa.tup (s12 _ _ k11) (.cons (Aa.row (e1112 _ _ k10')) (.cons (Aa.tup (sall _ _ hE) (Ad.ev (Ev.same sall) _ _ rf)) .nil))
 ·exact h.elim
theorem sc__law_four : Ax ["_law_plant_here","_law_story_here","_law_boiler","_law_hour","_law_words"] ["_law_plant_here","_law_story_here","_law_boiler","_law_hour"] (Aq s__law_four) := AF
theorem RB {ds : List Addr} {c TB : Addr} (F : ET K mg "_law_four" s__law_four ["_law_plant_here","_law_story_here","_law_boiler","_law_hour"] c) (hC : PySem.W.CodeHd base c TB) (hBu : base.BuiltinsAt mg TB) (T : Tx mg) (C : Tc K mg M ds) (D__law_said : FO P w K mg base 13 "_law_said" ["_law_call"] (DH P w K mg base 12 (Wd K M ds))) (DE_wider : AZ P w K mg base 11 "wider" ["plant","story"] (Cm ds)) (DE_lower : AZ P w K mg base 11 "lower" ["plant","story"] (Cm ds)) (DE_fuller : AZ P w K mg base 11 "fuller" ["plant","story"] (Cm ds)) (DE_more_drawn : AZ P w K mg base 11 "more_drawn" ["plant","story","hour"] (Dm ds)) (DE_less_drawn : AZ P w K mg base 11 "less_drawn" ["plant","story","hour"] (Dm ds)) (DE_better : AZ P w K mg base 11 "better" ["plant","story","boiler","hour"] (GF ds)) : Fn P w K mg base 14 "_law_four" ["_law_plant_here","_law_story_here","_law_boiler","_law_hour"] (EZ TB) := by
 refine F.fn sc__law_four (fun vs H Q E h => Ry h) (fun f A outer s H vs Q E hr h => ?_)
 refine ⟨_,(@Aj _ _ _ _ _ (@AB _ _ (4) _ _ _ _ sc__law_four.nd rfl (Ay (by rfl)) (@B7 _ _ _ _ (@Ak _ _ _ (D9 (N' := ["_law_plant_here","_law_story_here"]) (cap := [some 0,some 1]) D__law_said (hr.mono (by decide)) rfl (fun _ => rfl) rfl hC hBu (AM.of rfl) (by decide) rfl rfl rfl rfl (fun _ _ _ _ => rfl) (fun A outer s H f c E hrA => (Ba D6 DE_wider ((hrA.deeper _).mono (by decide)) rfl (@Al _ _ _ _ _ (@cx _ 0 _ _ (by rfl)) (@cx _ 1 _ _ (by rfl)) (by rfl))))) (by rfl))) (by rfl) (Az (by rfl))) (@Aj _ _ _ _ _ (@Br _ _ _ _ (@B5 _ _ _ _ _ _ _ _ _ _ _ _ PySem.F.plainAttrs_list PySem.F.slot_list_append PySem.F.type_list_append Cf (@cx _ 4 _ _ (by rfl)) (@Ak _ _ _ (D9 (N' := ["_law_plant_here","_law_story_here"]) (cap := [some 0,some 1]) D__law_said (hr.mono (by decide)) rfl (fun _ => rfl) rfl hC hBu (AM.of rfl) (by decide) rfl rfl rfl rfl (fun _ _ _ _ => rfl) (fun A outer s H f c E hrA => (Ba D6 DE_lower ((hrA.deeper _).mono (by decide)) rfl (@Al _ _ _ _ _ (@cx _ 0 _ _ (by rfl)) (@cx _ 1 _ _ (by rfl)) (by rfl))))) (by rfl)) (by rfl) (by rfl) (by rfl) (by rfl) (by rfl)) (by rfl)) (@Aj _ _ _ _ _ (@Br _ _ _ _ (@B5 _ _ _ _ _ _ _ _ _ _ _ _ PySem.F.plainAttrs_list PySem.F.slot_list_append PySem.F.type_list_append Cf (@cx _ 4 _ _ (by rfl)) (@Ak _ _ _ (D9 (N' := ["_law_plant_here","_law_story_here"]) (cap := [some 0,some 1]) D__law_said (hr.mono (by decide)) rfl (fun _ => rfl) rfl hC hBu (AM.of rfl) (by decide) rfl rfl rfl rfl (fun _ _ _ _ => rfl) (fun A outer s H f c E hrA => (Ba D6 DE_fuller ((hrA.deeper _).mono (by decide)) rfl (@Al _ _ _ _ _ (@cx _ 0 _ _ (by rfl)) (@cx _ 1 _ _ (by rfl)) (by rfl))))) (by rfl)) (by rfl) (by rfl) (by rfl) (by rfl) (by rfl)) (by rfl)) (@Aj _ _ _ _ _ (@Br _ _ _ _ (@B5 _ _ _ _ _ _ _ _ _ _ _ _ PySem.F.plainAttrs_list PySem.F.slot_list_append PySem.F.type_list_append Cf (@cx _ 4 _ _ (by rfl)) (@Ak _ _ _ (D9 (N' := ["_law_plant_here","_law_story_here","_law_hour"]) (cap := [some 0,some 1,some 3]) D__law_said (hr.mono (by decide)) rfl (fun _ => rfl) rfl hC hBu (AM.of rfl) (by decide) rfl rfl rfl rfl (fun _ _ _ _ => rfl) (fun A outer s H f c E hrA => (Ba D6 DE_more_drawn ((hrA.deeper _).mono (by decide)) rfl (@AA _ _ _ _ _ _ _ (@cx _ 0 _ _ (by rfl)) (@cx _ 1 _ _ (by rfl)) (@cx _ 2 _ _ (by rfl)) (by rfl))))) (by rfl)) (by rfl) (by rfl) (by rfl) (by rfl) (by rfl)) (by rfl)) (@Aj _ _ _ _ _ (@Br _ _ _ _ (@B5 _ _ _ _ _ _ _ _ _ _ _ _ PySem.F.plainAttrs_list PySem.F.slot_list_append PySem.F.type_list_append Cf (@cx _ 4 _ _ (by rfl)) (@Ak _ _ _ (D9 (N' := ["_law_plant_here","_law_story_here","_law_hour"]) (cap := [some 0,some 1,some 3]) D__law_said (hr.mono (by decide)) rfl (fun _ => rfl) rfl hC hBu (AM.of rfl) (by decide) rfl rfl rfl rfl (fun _ _ _ _ => rfl) (fun A outer s H f c E hrA => (Ba D6 DE_less_drawn ((hrA.deeper _).mono (by decide)) rfl (@AA _ _ _ _ _ _ _ (@cx _ 0 _ _ (by rfl)) (@cx _ 1 _ _ (by rfl)) (@cx _ 2 _ _ (by rfl)) (by rfl))))) (by rfl)) (by rfl) (by rfl) (by rfl) (by rfl) (by rfl)) (by rfl)) (@Aj _ _ _ _ _ (@Br _ _ _ _ (@B5 _ _ _ _ _ _ _ _ _ _ _ _ PySem.F.plainAttrs_list PySem.F.slot_list_append PySem.F.type_list_append Cf (@cx _ 4 _ _ (by rfl)) (@Ak _ _ _ (D9 (N' := ["_law_plant_here","_law_story_here","_law_boiler","_law_hour"]) (cap := [some 0,some 1,some 2,some 3]) D__law_said (hr.mono (by decide)) rfl (fun _ => rfl) rfl hC hBu (AM.of rfl) (by decide) rfl rfl rfl rfl (fun _ _ _ _ => rfl) (fun A outer s H f c E hrA => (Ba D6 DE_better ((hrA.deeper _).mono (by decide)) rfl (@A4 _ _ _ _ _ _ _ _ _ (@cx _ 0 _ _ (by rfl)) (@cx _ 1 _ _ (by rfl)) (@cx _ 2 _ _ (by rfl)) (@cx _ 3 _ _ (by rfl)) (by rfl))))) (by rfl)) (by rfl) (by rfl) (by rfl) (by rfl) (by rfl)) (by rfl)) (@Ao _ _ _ (@Au _ _ _ _ (@cx _ 4 _ _ (by rfl)))))))))),?_⟩
 unfold EZ at h
 split at h
 ·rename_i v u b h'
  obtain ⟨p,e,d,ws,rb,rh,pn,tb,⟨w1,w2,w3,wr1,wr2,wr3,rfl⟩,q⟩ := h
  have gw1 := wr1.good KP
  have gw2 := wr2.good (KQ d)
  have gw3 := wr3.good (Rw e d)
  refine ⟨tb,fun J1 T1 g1 => ⟨p,w1,wr1.evT (Av.grow (p := p) tb g1),Es (p := p) C gw1 fun t1 H1 d1 s1 r1 o1 => fun W H2 s2 hW kW => ?_⟩⟩
  have G1 : GH p TB W H H2 [.ref t1] [d1] [w1] := ⟨(Av.grow tb g1).trans (Av.same (s1.trans s2)),(Iu pn tb g1).same (s1.trans s2),T1.same (s1.trans s2),kW,.cons (Aa.ev (Ev.same s2) _ _ r1) .nil,.cons o1 .nil,PR T1 g1 s1 hW,((Iu pn tb g1).same s1).ne hW⟩
  clear T1 g1 s1 s2 kW r1 o1 hW
  refine ⟨.inl ⟨rfl,_,Am.of G1.at'⟩,G1.tab,fun J T1 g => ⟨p,w1,wr1.evT (G1.ev.trans (Av.grow (p := p) G1.tab g)),Es (p := p) C gw1 fun t H1 d1 s1 r1 o1 => ?_⟩⟩
  obtain ⟨k1,G2⟩ := G1.step T1 g s1 r1 o1
  refine ⟨W,_,_,rfl,rfl,k1,DT (Nat.le_of_ble_eq_true rfl),?_⟩
  clear k1 r1 o1 s1 T1 g
  generalize upd H1 W _ = HH2 at G2 ⊢
  refine ⟨.inl ⟨rfl,_,Am.of G2.at'⟩,G2.tab,fun J T1 g => ⟨p,w1,wr1.evT (G2.ev.trans (Av.grow (p := p) G2.tab g)),Es (p := p) C gw1 fun t H1 d1 s1 r1 o1 => ?_⟩⟩
  obtain ⟨k1,G3⟩ := G2.step T1 g s1 r1 o1
  refine ⟨W,_,_,rfl,rfl,k1,DT (Nat.le_of_ble_eq_true rfl),?_⟩
  clear k1 r1 o1 s1 T1 g
  generalize upd H1 W _ = HH3 at G3 ⊢
  refine ⟨.inl ⟨rfl,_,Am.of G3.at'⟩,G3.tab,fun J T1 g => ⟨p,d,w2,Aa.evT (G3.ev.trans (Av.grow (p := p) G3.tab g)) _ _ rh,wr2.evT (G3.ev.trans (Av.grow (p := p) G3.tab g)),Es (p := p) C gw2 fun t H1 d1 s1 r1 o1 => ?_⟩⟩
  obtain ⟨k1,G4⟩ := G3.step T1 g s1 r1 o1
  refine ⟨W,_,_,rfl,rfl,k1,DT (Nat.le_of_ble_eq_true rfl),?_⟩
  clear k1 r1 o1 s1 T1 g
  generalize upd H1 W _ = HH4 at G4 ⊢
  refine ⟨.inl ⟨rfl,_,Am.of G4.at'⟩,G4.tab,fun J T1 g => ⟨p,d,w2,Aa.evT (G4.ev.trans (Av.grow (p := p) G4.tab g)) _ _ rh,wr2.evT (G4.ev.trans (Av.grow (p := p) G4.tab g)),Es (p := p) C gw2 fun t H1 d1 s1 r1 o1 => ?_⟩⟩
  obtain ⟨k1,G5⟩ := G4.step T1 g s1 r1 o1
  refine ⟨W,_,_,rfl,rfl,k1,DT (Nat.le_of_ble_eq_true rfl),?_⟩
  clear k1 r1 o1 s1 T1 g
  generalize upd H1 W _ = HH5 at G5 ⊢
  refine ⟨.inl ⟨rfl,_,Am.of G5.at'⟩,G5.tab,fun J T1 g => ⟨p,e,d,w3,Aa.evT (G5.ev.trans (Av.grow (p := p) G5.tab g)) _ _ rb,Aa.evT (G5.ev.trans (Av.grow (p := p) G5.tab g)) _ _ rh,wr3.evT (G5.ev.trans (Av.grow (p := p) G5.tab g)),Es (p := p) C gw3 fun t H1 d1 s1 r1 o1 => ?_⟩⟩
  obtain ⟨k1,G6⟩ := G5.step T1 g s1 r1 o1
  refine ⟨W,_,_,rfl,rfl,k1,DT (Nat.le_of_ble_eq_true rfl),?_⟩
  clear k1 r1 o1 s1 T1 g
  generalize upd H1 W _ = HH6 at G6 ⊢
  exact q W HH6 _ _ G6.ev G6.pen G6.tab G6.n0 G6.nW G6.at' G6.rs G6.out
 ·exact h.elim
end
end MF
end
section
namespace MF
open PySem PySem.Spec PyProof.Rows L2
variable {p : Addr} {H : Hp} {S : SY}
theorem KW {X : Cx} {j : Nat} {p q : Pos} : PE X (.UnaryOp .USub (.Constant (.int 1) j p) q) (tC (.int (-1))) := (IJ IM Ae).weak fun σ H Q z => ⟨1,rfl,z⟩
structure RC (p : Addr) (H : Hp) (xs : List V) (w1 w2 w3 : Str) : Prop where
 ex : ∃ d1 d2 d3 d4 d5 d6 y1 y2 y3 y4 y5 y6,xs = [y1,y2,y3,y4,y5,y6] /\ BB w1 d1 /\ BB w1 d2 /\ BB w1 d3 /\ BB w2 d4 /\ BB w2 d5 /\ BB w3 d6 /\ Aa p H d1 y1 /\ Aa p H d2 y2 /\ Aa p H d3 y3 /\ Aa p H d4 y4 /\ Aa p H d5 y5 /\ Aa p H d6 y6
theorem Et {xs : List V} {ds : List PyData} {w1 w2 w3 : Str} (r : Ad p H ds xs) (o : Paired BB (Do w1 w2 w3) ds) : RC p H xs w1 w2 w3 := by
 unfold Do at o
 cases o with
 | cons o1 o =>
 cases o with
 | cons o2 o =>
 cases o with
 | cons o3 o =>
 cases o with
 | cons o4 o =>
 cases o with
 | cons o5 o =>
 cases o with
 | cons o6 o =>
 cases o
 unfold Ad at r
 obtain ⟨y1,_,rfl,r1,r⟩ := r
 unfold Ad at r
 obtain ⟨y2,_,rfl,r2,r⟩ := r
 unfold Ad at r
 obtain ⟨y3,_,rfl,r3,r⟩ := r
 unfold Ad at r
 obtain ⟨y4,_,rfl,r4,r⟩ := r
 unfold Ad at r
 obtain ⟨y5,_,rfl,r5,r⟩ := r
 unfold Ad at r
 obtain ⟨y6,_,rfl,r6,r⟩ := r
 unfold Ad at r
 subst r
 exact ⟨_,_,_,_,_,_,_,_,_,_,_,_,rfl,o1,o2,o3,o4,o5,o6,r1,r2,r3,r4,r5,r6⟩
theorem BB.word {w : Str} {d : PyData} (o : BB w d) (n : w ≠ "told") : d = .tuple [.str w] := by
 rcases o with ⟨e,_⟩ | ⟨_,e⟩
 ·exact absurd e n
 ·exact e
theorem BB.first {w : Str} {d : PyData} {v : V} (o : BB w d) (r : Aa p H d v) : ∃ a rest,v = .ref a /\ H a = some (.tup (.str w :: rest)) := by
 rcases o with ⟨rfl,x,_,rfl⟩ | ⟨_,rfl⟩
 ·obtain ⟨a,ys,rfl,ha,rs⟩ := Aa.shape r
  obtain ⟨y1,y2,rfl,r1,r2⟩ := Ad.two rs
  unfold Aa at r1; subst r1
  exact ⟨a,_,rfl,ha⟩
 ·obtain ⟨a,ys,rfl,ha,rs⟩ := Aa.shape r
  unfold Ad at rs
  obtain ⟨y1,t,rfl,r1,r2⟩ := rs
  unfold Aa at r1; subst r1
  exact ⟨a,_,rfl,ha⟩
theorem RD : PyData.eqv (.list [.tuple [.str "hour"],.tuple [.str "hour"],.tuple [.str "hour"]]) (.list [.tuple [.str "hour"],.tuple [.str "hour"],.tuple [.str "hour"]]) = true := by decide +kernel
theorem RE : PyData.eqv (.list [.tuple [.str "story"],.tuple [.str "story"],.tuple [.str "story"],.tuple [.str "story"],.tuple [.str "story"],.tuple [.str "story"]]) (.list [.tuple [.str "story"],.tuple [.str "story"],.tuple [.str "story"],.tuple [.str "story"],.tuple [.str "story"],.tuple [.str "story"]]) = true := by decide +kernel
theorem RF : PyData.eqv (.list [.tuple [.str "plant"],.tuple [.str "plant"],.tuple [.str "plant"],.tuple [.str "plant"],.tuple [.str "plant"],.tuple [.str "plant"]]) (.list [.tuple [.str "plant"],.tuple [.str "plant"],.tuple [.str "plant"],.tuple [.str "plant"],.tuple [.str "plant"],.tuple [.str "plant"]]) = true := by decide +kernel
theorem RG : PyData.eqv (.list [.str "told",.str "told",.str "told",.str "told",.str "told",.str "told"]) (.list [.str "told",.str "told",.str "told",.str "told",.str "told",.str "told"]) = true := by decide +kernel
theorem RH : PyData.eqv (.list [.str "way",.str "way",.str "way",.str "way",.str "way",.str "way"]) (.list [.str "way",.str "way",.str "way",.str "way",.str "way",.str "way"]) = true := by decide +kernel
theorem KY {n : Nat} (h : 1 <= n) : AN (.int ((n : Int) - 1)) 0 ((n : Int) - 1) = true := B1 (by omega) (Int.le_refl _)
def DueOk (P : PL) (S : SY) (due : Str) : Prop := (BA (terms P S) = none /\ due = "") \/ (BA (terms P S) ≠ none /\ due = "way")
def Askd (p : Addr) (H : Hp) (nb nh : Nat) (y : V) : Prop := ∃ a P S v u due,y = .ref a /\ H a = some (.tup [v,u,.str due]) /\ PL.ok P /\ SY.ok S P.bs.length /\ Aa p H P.d v /\ Aa p H S.d u /\ P.bs.length = nb /\ S.ex.length = nh /\ DueOk P S due
theorem Askd.evT {H' : Hp} {nb nh : Nat} {y : V} (h : Askd p H nb nh y) (e : Av p H H') : Askd p H' nb nh y := by
 obtain ⟨a,P,S,v,u,due,h1,h2,h3,h4,h5,h6,h7,h8,h9⟩ := h
 exact ⟨a,P,S,v,u,due,h1,e.tup h2,h3,h4,Aa.evT e _ _ h5,Aa.evT e _ _ h6,h7,h8,h9⟩
theorem RI {P : PL} (ok : P.ok) (so : S.ok P.bs.length) : ∀ d ∈ [PyData.none,.tuple [A3 (List.replicate 9 0),.tuple []],.tuple [A3 S.ex],.list [A3 S.ex,.tuple (S.fs.map FT.d)],.tuple [.tuple [.int 21],.tuple []],.tuple [.tuple [.int 0],.tuple [.tuple [.int 9,.str "out",.int 0,.int 0]]]],Eo d /\ Ck P.bs.length d = false := fun d hd => by
 have b4 := ok.b4
 simp only [List.mem_cons,List.not_mem_nil,or_false] at hd
 rcases hd with rfl | rfl | rfl | rfl | rfl | rfl
 ·exact ⟨Gz rfl,rfl⟩
 ·exact ⟨Gz rfl,rfl⟩
 ·exact ⟨fun x gs e => (by injection e with e; cases e),rfl⟩
 ·exact ⟨fun x gs e => (by cases e),rfl⟩
 ·exact ⟨Gz rfl,rfl⟩
 ·refine ⟨Gz rfl,?_⟩
  have z : BT (P.bs.length : Int) 1 (.tuple [.int 9,.str "out",.int 0,.int 0]) = false := by
   unfold BT
   dsimp only
   have : AN (.int 9) 0 ((P.bs.length : Int) - 1) = false := by unfold AN; dsimp only; rw [decide_eq_false (p := (9 : Int) <= (P.bs.length : Int) - 1) (by omega),Bool.and_false]
   rw [this,Bool.false_and,Bool.false_and,Bool.false_and,Bool.and_false]
  unfold Ck
  dsimp only
  have z' : ([PyData.tuple [.int 9,.str "out",.int 0,.int 0]].all (BT (P.bs.length : Int) (([PyData.int 0].length : Nat) : Int))) = false := by rw [List.all_cons,show BT (P.bs.length : Int) (([PyData.int 0].length : Nat) : Int) (.tuple [.int 9,.str "out",.int 0,.int 0]) = false from z,Bool.false_and]
  rw [z',Bool.and_false,Bool.and_false,Bool.and_false]
theorem RJ {P : PL} {S : SY} : ∀ d ∈ [PyData.none,.tuple [.tuple (P.bs.map bD),.tuple (P.es.map eD)],.list [.tuple (P.bs.map bD),.tuple (P.es.map eD),.tuple [.int P.lo,.int P.hi,.int P.st]],.tuple [.tuple (P.bs.map bD),.tuple (P.es.map eD),.tuple [.int 1,.int 0,.int 0]],.tuple [.tuple [],.tuple [],.tuple [.int 0,.int 0,.int 0]],S.d],B9 d = false := fun d hd => by
 simp only [List.mem_cons,List.not_mem_nil,or_false] at hd
 rcases hd with rfl | rfl | rfl | rfl | rfl | rfl
 ·rfl
 ·rfl
 ·rfl
 ·unfold B9
  dsimp only
  have : Dj (.tuple [.int 1,.int 0,.int 0]) = false := by decide
  rw [this,Bool.and_false]
 ·rfl
 ·rfl
theorem DueOk.word {P : PL} {due : Str} (h : DueOk P S due) : ∃ W,AW P S = W /\ (W = "told" \/ W = "way") /\ (due = "" -> W = "told") /\ (due ≠ "" -> W = "way") := by
 rcases h with ⟨no,rfl⟩ | ⟨no,rfl⟩
 ·exact ⟨"told",by unfold AW; rw [if_pos no],.inl rfl,fun _ => rfl,fun z => absurd rfl z⟩
 ·exact ⟨"way",by unfold AW; rw [if_neg no],.inr rfl,fun z => absurd z (by decide),fun _ => rfl⟩
theorem RK {W : Str} (h : W = "told" \/ W = "way") : PyData.eqv (.list [.str W,.str W,.str W,.str W,.str W,.str W]) (.list [.str W,.str W,.str W,.str W,.str W,.str W]) = true := by
 rcases h with rfl | rfl
 ·exact RG
 ·exact RH
theorem RL (n : Nat) : ∀ d ∈ [PyData.int (n : Int),.int (-1),.none,.bool true,.str "0"],AN d 0 ((n : Int) - 1) = false := fun d hd => by
 simp only [List.mem_cons,List.not_mem_nil,or_false] at hd
 rcases hd with rfl | rfl | rfl | rfl | rfl
 ·unfold AN; dsimp only; rw [decide_eq_false (p := (n : Int) <= (n : Int) - 1) (by omega),Bool.and_false]
 ·rfl
 ·rfl
 ·rfl
 ·rfl
theorem RM (n : Nat) : ∀ d ∈ [PyData.int (n : Int),.int (-1),.none,.bool false,.tuple [.int 0]],AN d 0 ((n : Int) - 1) = false := fun d hd => by
 simp only [List.mem_cons,List.not_mem_nil,or_false] at hd
 rcases hd with rfl | rfl | rfl | rfl | rfl
 ·unfold AN; dsimp only; rw [decide_eq_false (p := (n : Int) <= (n : Int) - 1) (by omega),Bool.and_false]
 ·rfl
 ·rfl
 ·rfl
 ·rfl
section
variable {P : Program} {w : World} {K : PySem.W.Frag} {mg : Str -> Option Value} {base : Heap}
theorem sc_law : Ax ["_law_script","_law_cell_here","_law_pen_here","_law_plant_here","_law_story_here","_law_dry_here","_law_drawn","_law_hours","_law_boilers","_law_lit","_law_here","_law_told","_law_due","_law_words","_law_bad"] ["_law_script"] (Aq s_law) := AF
theorem RN {TB : Addr} {lf : Addr} {lfd : FuncData} (F : Dx K "law" "law" s_law lf lfd) (T : Tx mg) (D__law_caps : Fn P w K mg base 1 "_law_caps" ["_law_plant_here","_law_story_here"] EU) (D__law_cell : Fn P w K mg base 1 "_law_cell" ["_law_script","_law_k"] (Gb K)) (D__law_draw : Gd P w K mg base) (D__law_dry : Fn P w K mg base 1 "_law_dry" ["_law_plant_here","_law_story_here"] GG) (D__law_four : Fn P w K mg base 14 "_law_four" ["_law_plant_here","_law_story_here","_law_boiler","_law_hour"] (EZ TB)) (D__law_keeps : Fn P w K mg base 2 "_law_keeps" ["_law_plant_here","_law_story_here","_law_firing"] EW) (D__law_pair : Fn P w K mg base 3 "_law_pair" ["_law_pen_here","_law_most","_law_hours"] Gy) (D__law_pen : Fn P w K mg base 1 "_law_pen" ["_law_cell_here"] Gc) : Cw P w K mg base CX0 15 lf lfd ["_law_script"] (sp_law K TB) := by
 refine F.ok sc_law (fun vs H Q E h => ?_) (fun cdv A outer s H vs Q E hr h => ?_)
 ·exact PK h
 refine ⟨_,(@Aj _ _ _ _ _ (@BI _ _ _ _ _ _ _ _ PassesOwn.never rfl (@Dd _ K _ _ _ (@As _ _ _ _ _ _ _ _ (@OR _) (@B7 _ _ _ _ (@Ak _ _ _ (@An _ _ _ _ _ _ _ _ _ _ D__law_cell (hr.mono (by decide)) rfl (@Al _ _ _ _ _ (@cx _ 0 _ _ (by rfl)) (@Ae _ _ _ _) (by rfl)) (by decide) (by rfl) (by rfl)) (by rfl))) (@Cy _ _ _ _ _ _ _ _ _ _ (@JO _ K (by rfl)) (@cx _ 0 _ _ (by rfl)) (@BU _ _ _ (@Ae _ _ _ _)) (@BU _ _ _ (@Ae _ _ _ _)))) (by rfl)) (@Ag _ _ _ 1 sc_law.nd (by rfl)) (@Aj _ _ _ _ _ (@AB _ _ (2) _ _ _ _ sc_law.nd rfl (Ay (by rfl)) (@An _ _ _ _ _ _ _ _ _ _ D__law_pen (hr.mono (by decide)) rfl (@Ak _ _ _ (@cx _ 1 _ _ (by rfl)) (by rfl)) (by decide) (by rfl) (by rfl)) (by rfl) (Az (by rfl))) (@Aj _ _ _ _ _ (@Bb _ _ _ _ _ _ (@An _ _ _ _ _ _ _ _ _ _ D__law_pair (hr.mono (by decide)) rfl (@AA _ _ _ _ _ _ _ (@cx _ 2 _ _ (by rfl)) (@Ae _ _ _ _) (@Ae _ _ _ _) (by rfl)) (by decide) (by rfl) (by rfl)) (@AI _ K _ _ _ (2) _ (@Ah _ _ _ _ _ (@Ag _ _ _ 3 sc_law.nd (by rfl)) (@Ah _ _ _ _ _ (@Ag _ _ _ 4 sc_law.nd (by rfl)) (@AH _) (by rfl)) (by rfl)) (by rfl) (by rfl) (by rfl) (by rfl)) (by rfl) (by rfl) (by rfl)) (@Aj _ _ _ _ _ (@Bb _ _ _ _ _ _ (@An _ _ _ _ _ _ _ _ _ _ D__law_dry (hr.mono (by decide)) rfl (@Al _ _ _ _ _ (@cx _ 3 _ _ (by rfl)) (@cx _ 4 _ _ (by rfl)) (by rfl)) (by decide) (by rfl) (by rfl)) (@AI _ K _ _ _ (2) _ (@Ah _ _ _ _ _ (@Ag _ _ _ 5 sc_law.nd (by rfl)) (@Ah _ _ _ _ _ (@Ag _ _ _ 6 sc_law.nd (by rfl)) (@AH _) (by rfl)) (by rfl)) (by rfl) (by rfl) (by rfl) (by rfl)) (by rfl) (by rfl) (by rfl)) (@Aj _ _ _ _ _ (@IE _ _ (7) (8) _ _ _ _ _ _ _ _ _ _ _ rfl sc_law.nd rfl rfl (by decide) rfl rfl (@Al _ _ _ _ _ (@AC _ _ _ _ _ _ _ _ _ (@BM _ K (by rfl)) rfl T.b_len PySem.boot_len (@Ak _ _ _ (@AD _ _ _ _ _ _ _ (@AT _ K (by rfl)) (@cx _ 4 _ _ (by rfl)) (@Ae _ _ _ _) (fun _ _ => rfl)) (by rfl)) (by decide) (by decide) (by rfl) (by rfl)) (@AC _ _ _ _ _ _ _ _ _ (@BM _ K (by rfl)) rfl T.b_len PySem.boot_len (@Ak _ _ _ (@AD _ _ _ _ _ _ _ (@AT _ K (by rfl)) (@cx _ 3 _ _ (by rfl)) (@Ae _ _ _ _) (fun _ _ => rfl)) (by rfl)) (by decide) (by decide) (by rfl) (by rfl)) (by rfl)) (by rfl) (by rfl)) (@Aj _ _ _ _ _ (@AB _ _ (9) _ _ _ _ sc_law.nd rfl (Ay (by rfl)) (@An _ _ _ _ _ _ _ _ _ _ D__law_keeps (hr.mono (by decide)) rfl (@AA _ _ _ _ _ _ _ (@cx _ 5 _ _ (by rfl)) (@cx _ 6 _ _ (by rfl)) (@An _ _ _ _ _ _ _ _ _ _ D__law_caps (hr.mono (by decide)) rfl (@Al _ _ _ _ _ (@cx _ 5 _ _ (by rfl)) (@cx _ 6 _ _ (by rfl)) (by rfl)) (by decide) (by rfl) (by rfl)) (by rfl)) (by decide) (by rfl) (by rfl)) (by rfl) (Az (by rfl))) (@Aj _ _ _ _ _ (@BI _ _ _ _ _ _ _ _ PassesOwn.never rfl (@Dd _ K _ _ _ (@B7 _ _ _ _ (@Al _ _ _ _ _ (@AV _ _ _ _ _ (@AA _ _ _ _ _ _ _ (@cx _ 3 _ _ (by rfl)) (@cx _ 4 _ _ (by rfl)) (@AK _ _ _ _) (by rfl))) (@AV _ _ _ _ _ (@AA _ _ _ _ _ _ _ (@cx _ 5 _ _ (by rfl)) (@cx _ 6 _ _ (by rfl)) (@DC _ _ _ _ _ _ _ _ (@BV _ _ _ (@cx _ 9 _ _ (by rfl)) (by intro _; rfl)) (@AK _ _ _ _) (@AK _ _ _ _)) (by rfl))) (by rfl))) (by rfl)) (@AI _ K _ _ _ (3) _ (@Ah _ _ _ _ _ (@Ag _ _ _ 10 sc_law.nd (by rfl)) (@Ah _ _ _ _ _ (@Ag _ _ _ 11 sc_law.nd (by rfl)) (@Ah _ _ _ _ _ (@Ag _ _ _ 12 sc_law.nd (by rfl)) (@AH _) (by rfl)) (by rfl)) (by rfl)) (by rfl) (by rfl) (by rfl) (by rfl)) (@Aj _ _ _ _ _ (@AB _ _ (13) _ _ _ _ sc_law.nd rfl (Ay (by rfl)) (@An _ _ _ _ _ _ _ _ _ _ D__law_four (hr.mono (by decide)) rfl (@A4 _ _ _ _ _ _ _ _ _ (@cx _ 10 _ _ (by rfl)) (@cx _ 11 _ _ (by rfl)) (@As _ _ _ _ _ _ _ _ (@Bk _) (@cx _ 8 _ _ (by rfl)) (@Ae _ _ _ _)) (@As _ _ _ _ _ _ _ _ (@Bk _) (@cx _ 7 _ _ (by rfl)) (@Ae _ _ _ _)) (by rfl)) (by decide) (by rfl) (by rfl)) (by rfl) (Az (by rfl))) (@Aj _ _ _ _ _ (@A8 _ _ _ _ _ _ _ _ (@A7 _ _ _ _ _ _ _ _ (@EL _ _ hr) (@BD _ _ _ _ _ _ _ _ _ _ _ ["_law_word"] [none] rfl (@Dd _ K _ _ _ (@cx _ 13 _ _ (by rfl)) (by rfl)) (AM.of rfl) (fun _ _ _ _ => (@Ag _ _ _ 0 (AS (by rfl)) (by rfl))) (fun _ _ _ _ => (@Bw _)) (fun _ _ _ _ => (@AD _ _ _ _ _ _ _ (@AT _ K (by rfl)) (@cx _ 0 _ _ (by rfl)) (@Ae _ _ _ _) (fun _ _ => rfl))) (by intro _; rfl)) (@As _ _ _ _ _ _ _ _ (@Fd _) (@B7 _ _ _ _ (@Ak _ _ _ (@DC _ _ _ _ _ _ _ _ (@A7 _ _ _ _ _ _ _ _ (@CT _) (@cx _ 12 _ _ (by rfl)) (@AK _ _ _ _) (A6 _)) (@AK _ _ _ _) (@AK _ _ _ _)) (by rfl))) (@Ae _ _ _ _)) (A6 _)) (@Ao _ _ _ (@Au _ _ _ _ (@BH _ _ _ _))) (@A5 _)) (@Aj _ _ _ _ _ (@BI _ _ _ _ _ _ _ _ PassesOwn.never rfl (@Dd _ K _ _ _ (@B7 _ _ _ _ (@Bg _ _ _ _ _ (@cx _ 7 _ _ (by rfl)) (@A4 _ _ _ _ _ _ _ _ _ KW (@BC _ _ _) (@BH _ _ _ _) (@AK _ _ _ _) (by rfl)) (by rfl))) (by rfl)) (@Ag _ _ _ 14 sc_law.nd (by rfl)) (@Ao _ _ _ (@A8 _ _ _ _ _ _ _ _ (@A7 _ _ _ _ _ _ _ _ (@EL _ _ hr) (@Cy _ _ _ _ _ _ _ _ _ _ (@JO _ K (by rfl)) (@An _ _ _ _ _ _ _ _ _ _ D__law_four (hr.mono (by decide)) rfl (@A4 _ _ _ _ _ _ _ _ _ (@cx _ 10 _ _ (by rfl)) (@cx _ 11 _ _ (by rfl)) (@Ae _ _ _ _) (@cx _ 14 _ _ (by rfl)) (by rfl)) (by decide) (by rfl) (by rfl)) (@BU _ _ _ (@Ae _ _ _ _)) (@C9 _)) (@As _ _ _ _ _ _ _ _ (@Fd _) (@B7 _ _ _ _ (@Ak _ _ _ (@AV _ _ _ _ _ (@Ak _ _ _ (@AK _ _ _ _) (by rfl))) (by rfl))) (@Ae _ _ _ _)) (A6 _)) (@Ao _ _ _ (@Au _ _ _ _ (@BH _ _ _ _))) (@A5 _))) (by intro _; rfl)) (@Aj _ _ _ _ _ (@BI _ _ _ _ _ _ _ _ PassesOwn.never rfl (@Dd _ K _ _ _ (@B7 _ _ _ _ (@Bg _ _ _ _ _ (@cx _ 8 _ _ (by rfl)) (@A4 _ _ _ _ _ _ _ _ _ KW (@BC _ _ _) (@BH _ _ _ _) (@AV _ _ _ _ _ (@Ak _ _ _ (@Ae _ _ _ _) (by rfl))) (by rfl)) (by rfl))) (by rfl)) (@Ag _ _ _ 14 sc_law.nd (by rfl)) (@Ao _ _ _ (@A8 _ _ _ _ _ _ _ _ (@A7 _ _ _ _ _ _ _ _ (@EL _ _ hr) (@AD _ _ _ _ _ _ _ (@Bz _ K (by rfl)) (@An _ _ _ _ _ _ _ _ _ _ D__law_four (hr.mono (by decide)) rfl (@A4 _ _ _ _ _ _ _ _ _ (@cx _ 10 _ _ (by rfl)) (@cx _ 11 _ _ (by rfl)) (@cx _ 14 _ _ (by rfl)) (@AD _ _ _ _ _ _ _ (@Bz _ K (by rfl)) (@B7 _ _ _ _ (@Al _ _ _ _ _ (@Ae _ _ _ _) (@Ae _ _ _ _) (by rfl))) (@An _ _ _ _ _ _ _ _ _ _ D__law_draw (hr.mono (by decide)) rfl (@Al _ _ _ _ _ (@cx _ 2 _ _ (by rfl)) (@Ae _ _ _ _) (by rfl)) (by decide) (by rfl) (by rfl)) (fun _ _ => rfl)) (by rfl)) (by decide) (by rfl) (by rfl)) (@Ae _ _ _ _) (fun _ _ => rfl)) (@AV _ _ _ _ _ (@Ak _ _ _ (@AK _ _ _ _) (by rfl))) (A6 _)) (@Ao _ _ _ (@Au _ _ _ _ (@BH _ _ _ _))) (@A5 _))) (by intro _; rfl)) (@Ao _ _ _ (@BI _ _ _ _ _ _ _ _ PassesOwn.never rfl (@Dd _ K _ _ _ (@B7 _ _ _ _ (@Bg _ _ _ _ _ (@BC _ _ _) (@Bg _ _ _ _ _ (@AV _ _ _ _ _ (@Al _ _ _ _ _ (@As _ _ _ _ _ _ _ _ (@HE _) (@AV _ _ _ _ _ (@Ak _ _ _ (@Ae _ _ _ _) (by rfl))) (@Ae _ _ _ _)) (@AV _ _ _ _ _ (@BJ _)) (by rfl))) (@A4 _ _ _ _ _ _ _ _ _ (@Cy _ _ _ _ _ _ _ _ _ _ (@s_tup _) (@cx _ 11 _ _ (by rfl)) (@C9 _) (@BU _ _ _ (@Ae _ _ _ _))) (@BL _ _ _ _ _ _ _ _ _ (@Kg _ K (by rfl)) rfl T.b_list Hx (@Ak _ _ _ (@cx _ 11 _ _ (by rfl)) (by rfl)) (by decide) (by decide) (by rfl) (by rfl)) (@AV _ _ _ _ _ (@Al _ _ _ _ _ (@AV _ _ _ _ _ (@Ak _ _ _ (@Ae _ _ _ _) (by rfl))) (@AV _ _ _ _ _ (@BJ _)) (by rfl))) (@AV _ _ _ _ _ (@Al _ _ _ _ _ (@AV _ _ _ _ _ (@Ak _ _ _ (@Ae _ _ _ _) (by rfl))) (@AV _ _ _ _ _ (@Ak _ _ _ (@AV _ _ _ _ _ (@A4 _ _ _ _ _ _ _ _ _ (@Ae _ _ _ _) (@AK _ _ _ _) (@Ae _ _ _ _) (@Ae _ _ _ _) (by rfl))) (by rfl))) (by rfl))) (by rfl)) (by rfl)) (by rfl))) (by rfl)) (@Ag _ _ _ 14 sc_law.nd (by rfl)) (@Ao _ _ _ (@A8 _ _ _ _ _ _ _ _ (@A7 _ _ _ _ _ _ _ _ (@EL _ _ hr) (@An _ _ _ _ _ _ _ _ _ _ D__law_four (hr.mono (by decide)) rfl (@A4 _ _ _ _ _ _ _ _ _ (@cx _ 10 _ _ (by rfl)) (@cx _ 14 _ _ (by rfl)) (@BC _ _ _) (@BC _ _ _) (by rfl)) (by decide) (by rfl) (by rfl)) (@As _ _ _ _ _ _ _ _ (@Fd _) (@B7 _ _ _ _ (@Ak _ _ _ (@AV _ _ _ _ _ (@Ak _ _ _ (@AK _ _ _ _) (by rfl))) (by rfl))) (@Ae _ _ _ _)) (A6 _)) (@Ao _ _ _ (@Au _ _ _ _ (@BH _ _ _ _))) (@A5 _))) (by intro _; rfl))))))) (by intro _; rfl)) (@Ao _ _ _ (@BI _ _ _ _ _ _ _ _ PassesOwn.never rfl (@Dd _ K _ _ _ (@B7 _ _ _ _ (@Bg _ _ _ _ _ (@BC _ _ _) (@Bg _ _ _ _ _ (@Cy _ _ _ _ _ _ _ _ _ _ (@s_tup _) (@cx _ 3 _ _ (by rfl)) (@C9 _) (@BU _ _ _ (@Ae _ _ _ _))) (@A4 _ _ _ _ _ _ _ _ _ (@BL _ _ _ _ _ _ _ _ _ (@Kg _ K (by rfl)) rfl T.b_list Hx (@Ak _ _ _ (@cx _ 3 _ _ (by rfl)) (by rfl)) (by decide) (by decide) (by rfl) (by rfl)) (@AV _ _ _ _ _ (@AA _ _ _ _ _ _ _ (@AD _ _ _ _ _ _ _ (@AT _ K (by rfl)) (@cx _ 3 _ _ (by rfl)) (@Ae _ _ _ _) (fun _ _ => rfl)) (@AD _ _ _ _ _ _ _ (@AT _ K (by rfl)) (@cx _ 3 _ _ (by rfl)) (@Ae _ _ _ _) (fun _ _ => rfl)) (@AV _ _ _ _ _ (@AA _ _ _ _ _ _ _ (@Ae _ _ _ _) (@Ae _ _ _ _) (@Ae _ _ _ _) (by rfl))) (by rfl))) (@AV _ _ _ _ _ (@AA _ _ _ _ _ _ _ (@AV _ _ _ _ _ (@BJ _)) (@AV _ _ _ _ _ (@BJ _)) (@AV _ _ _ _ _ (@AA _ _ _ _ _ _ _ (@Ae _ _ _ _) (@Ae _ _ _ _) (@Ae _ _ _ _) (by rfl))) (by rfl))) (@cx _ 4 _ _ (by rfl)) (by rfl)) (by rfl)) (by rfl))) (by rfl)) (@Ag _ _ _ 14 sc_law.nd (by rfl)) (@Ao _ _ _ (@A8 _ _ _ _ _ _ _ _ (@A7 _ _ _ _ _ _ _ _ (@EL _ _ hr) (@An _ _ _ _ _ _ _ _ _ _ D__law_four (hr.mono (by decide)) rfl (@A4 _ _ _ _ _ _ _ _ _ (@cx _ 14 _ _ (by rfl)) (@AD _ _ _ _ _ _ _ (@Bz _ K (by rfl)) (@B7 _ _ _ _ (@Al _ _ _ _ _ (@cx _ 4 _ _ (by rfl)) (@BC _ _ _) (by rfl))) (@An _ _ _ _ _ _ _ _ _ _ D__law_draw (hr.mono (by decide)) rfl (@Al _ _ _ _ _ (@cx _ 2 _ _ (by rfl)) (@Ae _ _ _ _) (by rfl)) (by decide) (by rfl) (by rfl)) (fun _ _ => rfl)) (@BC _ _ _) (@Ae _ _ _ _) (by rfl)) (by decide) (by rfl) (by rfl)) (@As _ _ _ _ _ _ _ _ (@Fd _) (@B7 _ _ _ _ (@Ak _ _ _ (@AV _ _ _ _ _ (@Ak _ _ _ (@AK _ _ _ _) (by rfl))) (by rfl))) (@Ae _ _ _ _)) (A6 _)) (@Ao _ _ _ (@Au _ _ _ _ (@BH _ _ _ _))) (@A5 _))) (by intro _; rfl))))))))) (by intro _; rfl)) (@Ao _ _ _ (@Au _ _ _ _ (@BH _ _ _ _)))),?_⟩
 unfold sp_law at h
 split at h
 ·rename_i a
  obtain ⟨ns,hS,hn63,hTB,q⟩ := h
  have tb0 : TabIn H TB CH := ⟨#[],hTB,trivial,fun pos v e => (by have : (none : Option Value) = some v := e; cases this)⟩
  refine ⟨ns,hS,by decide,fun c0 l1 H01 s01 hl1 k01 => ?_⟩
  have hS1 : Am K H01 a (ns.map V.int) := s01.seq hS
  refine ⟨1,rfl,3,rfl,a,_,rfl,hS1,fun l2 hl2 => ?_⟩
  have lc : (Bh (ns.map V.int) (some 1) (some 3)).length <= 63 := Nat.le_trans (Fb _ _ _) (by rw [List.length_map]; exact hn63)
  refine ⟨l1,l2,[.int c0],_,rfl,rfl,(Ab.new hl2) _ _ k01,Ai,PQ (by rw [List.length_singleton]; omega),fun L H02 s02 hL kL => ?_⟩
  have allI : ∀ v ∈ [V.int c0] ++ Bh (ns.map V.int) (some 1) (some 3),∃ i,v = .int i := fun v hv => by
   rcases List.mem_append.mp hv with hv | hv
   ·exact ⟨c0,List.mem_singleton.mp hv⟩
   ·obtain ⟨i,_,e⟩ := List.mem_map.mp (PP hv); exact ⟨i,e.symm⟩
  have tb1 := tb0.same (s01.trans ((Ab.new hl2).trans s02))
  generalize [V.int c0] ++ Bh (ns.map V.int) (some 1) (some 3) = xs at allI kL
  refine ⟨L,rfl,⟨xs,Am.of kL⟩,DQ (xs := xs) (fun i σ H' => (∃ x1 x2 x3 x4 x5 x6 x7 x8 x9 x10 x11 x12 x13 x14,σ = [some (.ref a),x1,x2,x3,x4,x5,x6,x7,x8,x9,x10,x11,x12,x13,x14]) /\ H' L = some (.lst xs) /\ TabIn H' TB CH) ⟨⟨_,_,_,_,_,_,_,_,_,_,_,_,_,_,rfl⟩,kL,tb1⟩ (fun i σ H' _ h => Am.of h.2.1) (fun i x σ H1 hx h => ?_) fun σ H1 h => q H1⟩
  obtain ⟨⟨x1,x2,x3,x4,x5,x6,x7,x8,x9,x10,x11,x12,x13,x14,rfl⟩,hL1,tb2⟩ := h
  obtain ⟨c,rfl⟩ := allI x (List.mem_of_getElem? hx)
  refine fun p l f hp => ?_
  have nLp : L ≠ p := Bd hL1 hp
  have np := Ab.new (o := .lst [.int l,.int f]) hp
  have pn2 : AU p (upd H1 p (.lst [.int l,.int f])) := ⟨l,f,Ai⟩
  have hL2 := np _ _ hL1
  have tb3 := tb2.same np
  generalize upd H1 p (.lst [.int l,.int f]) = H2 at np pn2 hL2 tb3 ⊢
  refine ⟨pn2,by decide,by decide,by decide,by decide,fun t H3 P S v u ok so kp kt rv ru e3 pn3 => ⟨t,_,rfl,Af.of kt,rfl,_,_,rfl,_,_,rfl,rfl,?_⟩⟩
  have fS := fun {H H' : Hp} (s : Ab H H') => Ev.same (p := p) s
  refine ⟨p,P,S,ok,so,rv,ru,fun t4 H4 v' u' s4 k4 rv' ru' => ⟨t4,_,rfl,Af.of k4,rfl,_,_,rfl,_,_,rfl,rfl,?_⟩⟩
  have x1' := so.x1
  have x8 := so.x8
  have b1 := ok.b1
  have b4 := ok.b4
  have ok' := Rt ok
  have so' : (CQ S).ok (Dn P).bs.length := Ru so
  have lh' : (CQ S).ex.length = S.ex.length := by show (20 :: S.ex.drop 1).length = _; rw [List.length_cons,List.length_drop]; omega
  have rv4 := Aa.ev (fS s4) _ _ rv
  have ru4 := Aa.ev (fS s4) _ _ ru
  obtain ⟨PA,PB,PE,PM,xb,xe,rfl,pA,pB,rb,pE,re,pM⟩ := Aa.plant rv4
  obtain ⟨SA,SB,SE,xf,rfl,sA,sB,sE,rf⟩ := Aa.story ru4
  have lb := rb.len
  rw [List.length_map] at lb
  have lh : (S.ex.map V.int).length = S.ex.length := List.length_map _
  refine ⟨SA,_,0,.ref SB,rfl,rfl,Af.of sA,rfl,SB,_,rfl,.inr (Af.of sB),PA,_,0,.ref PB,rfl,rfl,Af.of pA,rfl,PB,_,rfl,.inr (Af.of pB),_,_,rfl,?_⟩
  rw [lh,<- lb]
  refine ⟨p,Dn P,CQ S,ok',so',rv',ru',fun wc H5 s5 rc => ⟨p,Dn P,CQ S,caps (Dn P) (CQ S),ok',so',DE,Aa.ev (fS s5) _ _ rv',Aa.ev (fS s5) _ _ ru',Feed.of rc,fun lit H6 hlit s6 => ?_⟩⟩
  have s46 := s5.trans s6
  refine fun t7 H7 s7 k7 => ?_
  have s47 := s46.trans s7
  have e37 := e3.trans (fS (s4.trans s47))
  have pn7 := pn3.same (s4.trans s47)
  have hL7 := e37.lst hL2 nLp
  have tb7 := tb3.ev e37
  have rv7 := Aa.ev (fS s47) _ _ rv4
  have ru7 := Aa.ev (fS s47) _ _ ru4
  have rv7' := Aa.ev (fS s47) _ _ rv'
  have ru7' := Aa.ev (fS s47) _ _ ru'
  have dd1 : DueOk P S "" := .inl ⟨(HZ ok so).mp kp,rfl⟩
  obtain ⟨due2,dd2,hd1,hd2⟩ : ∃ due2,DueOk (Dn P) (CQ S) due2 /\ (lit = true -> due2 = "") /\ (lit = false -> due2 = "way") := by
   cases hl : lit with
   | true => exact ⟨"",.inl ⟨(HZ ok' so').mp (hlit.mp hl),rfl⟩,fun _ => rfl,fun z => (nomatch z)⟩
   | false => exact ⟨"way",.inr ⟨fun z => (by rw [hlit.mpr ((HZ ok' so').mpr z)] at hl; cases hl),rfl⟩,fun z => (nomatch z),fun _ => rfl⟩
  refine ⟨fun hc => ?_,fun hc => ?_⟩
  all_goals
   refine fun t8 H8 s8 k8 => ?_
   have k8 : H8 t8 = some (.tup [v',u',.str due2]) := by first | (rw [hd1 hc]; exact k8) | (rw [hd2 hc]; exact k8)
   clear hc
   refine fun LL H9 s9 hLL k9 => ?_
   have e79 := fS (s8.trans s9)
   have pn9 := pn7.same (s8.trans s9)
   have nLL : LL ≠ p := (pn7.same s8).ne hLL
   have ask : ∀ y ∈ [V.ref t7,V.ref t8],Askd p H9 P.bs.length S.ex.length y := fun y hy => by
    simp only [List.mem_cons,List.not_mem_nil,or_false] at hy
    rcases hy with rfl | rfl
    ·exact ⟨t7,P,S,_,_,_,rfl,(s8.trans s9) _ _ k7,ok,so,Aa.ev e79 _ _ rv7,Aa.ev e79 _ _ ru7,rfl,rfl,dd1⟩
    ·exact ⟨t8,Dn P,CQ S,_,_,_,rfl,s9 _ _ k8,ok',so',Aa.ev e79 _ _ rv7',Aa.ev e79 _ _ ru7',rfl,lh',dd2⟩
   have hL9 := (s8.trans s9) _ _ hL7
   have tb9 := tb7.same (s8.trans s9)
   have rv9 := Aa.ev e79 _ _ rv7
   have ru9 := Aa.ev e79 _ _ ru7
   refine ⟨LL,rfl,⟨_,Am.of k9⟩,DQ (xs := [.ref t7,.ref t8]) (fun i σ H' => (∃ x10 x11 x12 x13 x14,σ = [some (.ref a),some (.int c),some (.ref p),some (.ref PA),some (.ref SA),some v',some u',some (.int S.ex.length),some (.int P.bs.length),some (.bl lit),x10,x11,x12,x13,x14]) /\ Av p H9 H' /\ AU p H' /\ TabIn H' TB CH) ⟨⟨_,_,_,_,_,rfl⟩,Av.refl,pn9,tb9⟩ (fun i σ H' _ h => Am.of (h.2.1.lst k9 nLL)) (fun i y σ Ha hy h => ?_) fun σ Ha h => ?_⟩
   ·obtain ⟨⟨x10,x11,x12,x13,x14,rfl⟩,ea,pna,tba⟩ := h
    obtain ⟨ta,P1,S1,v1,u1,due,rfl,kta,ok1,so1,rv1,ru1,eb1,eh1,due1⟩ := (ask y (List.mem_of_getElem? hy)).evT ea
    refine ⟨ta,_,rfl,Af.of kta,rfl,_,_,rfl,_,_,rfl,_,_,rfl,rfl,?_⟩
    obtain ⟨W,hw,hW,hd1,hd2⟩ := due1.word
    have hh1 : Bj (.int ((S.ex.length : Int) - 1)) P1 S1 = W := by unfold Bj; rw [eh1,if_pos (KY x1'),hw]
    have hb1 : B3 (.int ((P.bs.length : Int) - 1)) (.int ((S.ex.length : Int) - 1)) P1 S1 = W := by unfold B3; rw [eb1,if_pos (KY b1),hh1]
    refine ⟨p,.int ((P.bs.length : Int) - 1),.int ((S.ex.length : Int) - 1),Do W W W,Aa.int,Aa.int,pna,tba,⟨_,_,_,.inr (.inr ⟨P1,S1,ok1,so1,rv1,ru1,hw.symm⟩),.inr (.inr ⟨P1,S1,ok1,so1,rv1,ru1,hh1.symm⟩),.inr (.inr ⟨P1,S1,ok1,so1,rv1,ru1,hb1.symm⟩),rfl⟩,fun Rr Hb xs1 ds1 eb pnb tbb hR nR kR rs1 o1 => ?_⟩
    have firsts : ∀ y ∈ xs1,∃ a rest,y = .ref a /\ Hb a = some (.tup (.str W :: rest)) := fun y hy => by
     obtain ⟨d1,d2,d3,d4,d5,d6,y1,y2,y3,y4,y5,y6,rfl,q1,q2,q3,q4,q5,q6,r1,r2,r3,r4,r5,r6⟩ := (Et rs1 o1).ex
     simp only [List.mem_cons,List.not_mem_nil,or_false] at hy
     rcases hy with rfl | rfl | rfl | rfl | rfl | rfl
     ·exact q1.first r1
     ·exact q2.first r2
     ·exact q3.first r3
     ·exact q4.first r4
     ·exact q5.first r5
     ·exact q6.first r6
    have l6 : xs1.length = 6 := by
     obtain ⟨d1,d2,d3,d4,d5,d6,y1,y2,y3,y4,y5,y6,rfl,_⟩ := (Et rs1 o1).ex
     rfl
    refine ⟨Rr,rfl,⟨xs1,Am.of kR⟩,Jw (xs := xs1) (fun j zs H' => Ab Hb H' /\ zs = List.replicate j (V.str W)) (by omega) ⟨Ab.refl _,rfl⟩ (fun j zs H' h => by rw [h.2,List.length_replicate]; omega) (fun j zs H' _ h => Am.of (h.1 _ _ kR)) (fun j x zs H' hx h => ?_) fun zs H' h => ?_⟩
    ·obtain ⟨aa,rest,rfl,ka⟩ := firsts x (List.mem_of_getElem? hx)
     refine ⟨trivial,fun _ => ⟨aa,_,0,.str W,rfl,rfl,Af.of (h.1 _ _ ka),Dv (j := 0) rfl,h.1,?_⟩,fun z => by cases z⟩
     rw [h.2,List.replicate_succ']
    intro L1 hL1
    have zs6 : zs = [.str W,.str W,.str W,.str W,.str W,.str W] := by rw [h.2,l6]; rfl
    have n1 := Ab.new (o := .lst zs) hL1
    have kL1 : upd H' L1 (.lst zs) L1 = some (.lst [.str W,.str W,.str W,.str W,.str W,.str W]) := by rw [Ai,zs6]
    have nL1 : L1 ≠ p := (pnb.same h.1).ne hL1
    have sb := h.1.trans n1
    generalize upd H' L1 (.lst zs) = Hc at n1 sb kL1 ⊢
    refine ⟨rfl,⟨fun cc => ?_,fun cc => ?_⟩⟩
    all_goals
     refine fun L2 H2 s2 hL2 kL2 => ?_
     have kL2 : H2 L2 = some (.lst [.str W]) := by first | (rw [hd1 (by simpa using cc)]; exact kL2) | (rw [hd2 (by simpa using cc)]; exact kL2)
     clear cc
     refine ⟨L2,6,_,rfl,rfl,kL2,by decide,by decide,Bl rfl,fun L3 hL3 => ?_⟩
     have n3 := Ab.new (o := .lst (List.replicate (6 : Int).toNat [V.str W]).flatten) hL3
     have nL3 : L3 ≠ p := (pnb.same (sb.trans s2)).ne hL3
     have kL3 : upd H2 L3 (.lst (List.replicate (6 : Int).toNat [V.str W]).flatten) L3 = some (.lst [.str W,.str W,.str W,.str W,.str W,.str W]) := Ai
     generalize upd H2 L3 (.lst (List.replicate (6 : Int).toNat [V.str W]).flatten) = Hd at n3 kL3 ⊢
     refine ⟨p,.list [.str W,.str W,.str W,.str W,.str W,.str W],.list [.str W,.str W,.str W,.str W,.str W,.str W],Aa.lst nL1 ((s2.trans n3) _ _ kL1) (.cons Aa.str (.cons Aa.str (.cons Aa.str (.cons Aa.str (.cons Aa.str (.cons Aa.str .nil)))))),Aa.lst nL3 kL3 (.cons Aa.str (.cons Aa.str (.cons Aa.str (.cons Aa.str (.cons Aa.str (.cons Aa.str .nil)))))),by rcases hW with rfl | rfl <;> decide +kernel,by rcases hW with rfl | rfl <;> decide +kernel,by rcases hW with rfl | rfl <;> decide +kernel,by rcases hW with rfl | rfl <;> decide +kernel,by rcases hW with rfl | rfl <;> decide +kernel,?_⟩
     rw [RK hW]
     refine ⟨fun cc => (by cases cc),fun _ => ?_⟩
     have sbd := sb.trans (s2.trans n3)
     have ead := eb.trans (Av.same (p := p) sbd)
     have pnd := pnb.same sbd
     have tbd := tbb.same sbd
     have rvd := Aa.evT ead _ _ rv1
     have rud := Aa.evT ead _ _ ru1
     refine fun LA HA sHA hLA kLA => ?_
     have nLA : LA ≠ p := pnd.ne hLA
     have pnHA := pnd.same sHA
     have tbHA := tbd.same sHA
     have rvA := Aa.evT (Av.same (p := p) sHA) _ _ rvd
     have ruA := Aa.evT (Av.same (p := p) sHA) _ _ rud
     have rsLA : Ad p HA [.int (S.ex.length : Int),.int (-1),.none,.bool true,.str "0"] [.int (S.ex.length : Int),.int (-1),.non,.bl true,.str "0"] := .cons Aa.int (.cons Aa.int (.cons Aa.non (.cons Aa.bl (.cons Aa.str .nil))))
     have noLA := RL S.ex.length
     refine ⟨LA,rfl,⟨_,Am.of kLA⟩,DQ (xs := [.int (S.ex.length : Int),.int (-1),.non,.bl true,.str "0"]) (fun i σ H' => (∃ x14,σ = [some (.ref a),some (.int c),some (.ref p),some (.ref PA),some (.ref SA),some v',some u',some (.int S.ex.length),some (.int P.bs.length),some (.bl lit),some v1,some u1,some (.str due),some (.ref Rr),x14]) /\ Av p HA H' /\ AU p H' /\ TabIn H' TB CH) ⟨⟨_,rfl⟩,Av.refl,pnHA,tbHA⟩ (fun i σ H' _ h => Am.of (h.2.1.lst kLA nLA)) (fun i y σ Hm hx h => ?_) fun σ Hm h => ?_⟩
     ·obtain ⟨⟨x14,rfl⟩,em,pnm,tbm⟩ := h
      obtain ⟨d,hd,rd0⟩ := rsLA.got hx
      have nod := noLA d (List.mem_of_getElem? hd)
      have rd := Aa.evT em _ _ rd0
      have hh : Bj d P1 S1 = "hour" := by unfold Bj; rw [eh1,if_neg (by rw [nod]; decide)]
      have hb : B3 (.int 0) d P1 S1 = "hour" := by unfold B3; rw [eb1,if_pos (B1 (by omega) (by omega)),hh]
      refine ⟨p,.int 0,d,Do W "hour" "hour",Aa.int,rd,pnm,tbm,⟨_,_,_,.inr (.inr ⟨P1,S1,ok1,so1,Aa.evT em _ _ rvA,Aa.evT em _ _ ruA,hw.symm⟩),.inr (.inr ⟨P1,S1,ok1,so1,Aa.evT em _ _ rvA,Aa.evT em _ _ ruA,hh.symm⟩),.inr (.inr ⟨P1,S1,ok1,so1,Aa.evT em _ _ rvA,Aa.evT em _ _ ruA,hb.symm⟩),rfl⟩,fun R2 H2 xs2 ds2 e2 pn2 tb2 hR2 nR2 kR2 rs2 o2 => ?_⟩
      obtain ⟨d1,d2,d3,d4,d5,d6,y1,y2,y3,y4,y5,y6,rfl,q1,q2,q3,q4,q5,q6,r1,r2,r3,r4,r5,r6⟩ := (Et rs2 o2).ex
      obtain rfl := q4.word (by decide)
      obtain rfl := q5.word (by decide)
      obtain rfl := q6.word (by decide)
      refine ⟨3,rfl,R2,_,rfl,Am.of kR2,fun L4 hL4 => fun t5 H5 s5 k5 => fun L6 H6 s6 hL6 kL6 => ⟨L6,3,_,rfl,rfl,kL6,by decide,by decide,Bl rfl,fun L7 hL7 => ?_⟩⟩
      have n4 := Ab.new (o := .lst (Bh [y1,y2,y3,y4,y5,y6] (some 3) none)) hL4
      have nL4 : L4 ≠ p := pn2.ne hL4
      have kL4 : upd H2 L4 (.lst (Bh [y1,y2,y3,y4,y5,y6] (some 3) none)) L4 = some (.lst [y4,y5,y6]) := Ai
      generalize upd H2 L4 (.lst (Bh [y1,y2,y3,y4,y5,y6] (some 3) none)) = H4 at n4 kL4 s5 ⊢
      have n7 := Ab.new (o := .lst (List.replicate (3 : Int).toNat [V.ref t5]).flatten) hL7
      have nL7 : L7 ≠ p := (pn2.same (n4.trans (s5.trans s6))).ne hL7
      have kL7 : upd H6 L7 (.lst (List.replicate (3 : Int).toNat [V.ref t5]).flatten) L7 = some (.lst [.ref t5,.ref t5,.ref t5]) := Ai
      generalize upd H6 L7 (.lst (List.replicate (3 : Int).toNat [V.ref t5]).flatten) = H7 at n7 kL7 ⊢
      have s47 := s5.trans (s6.trans n7)
      have s27 := n4.trans s47
      have rt := Aa.tup (p := p) ((s6.trans n7) _ _ k5) (.cons (Aa.str (i := "hour")) .nil)
      refine ⟨p,.list [.tuple [.str "hour"],.tuple [.str "hour"],.tuple [.str "hour"]],.list [.tuple [.str "hour"],.tuple [.str "hour"],.tuple [.str "hour"]],Aa.lst nL4 (s47 _ _ kL4) (.cons (Aa.ev (fS s27) _ _ r4) (.cons (Aa.ev (fS s27) _ _ r5) (.cons (Aa.ev (fS s27) _ _ r6) .nil))),Aa.lst nL7 kL7 (.cons rt (.cons rt (.cons rt .nil))),by decide +kernel,by decide +kernel,by decide +kernel,by decide +kernel,by decide +kernel,?_⟩
      rw [RD]
      exact ⟨fun cc => (by cases cc),fun _ => ⟨⟨_,rfl⟩,em.trans (e2.trans (Av.same s27)),pn2.same s27,tb2.same s27⟩⟩
     obtain ⟨⟨x14,rfl⟩,emHA,pnzHA,tbzHA⟩ := h
     refine fun tz Hz sz kz => fun LB HB sHB hLB kLB => ?_
     have nLB : LB ≠ p := (pnzHA.same sz).ne hLB
     have pnHB := pnzHA.same (sz.trans sHB)
     have tbHB := tbzHA.same (sz.trans sHB)
     have eAB := emHA.trans (Av.same (p := p) (sz.trans sHB))
     have rvB := Aa.evT eAB _ _ rvA
     have ruB := Aa.evT eAB _ _ ruA
     have rsLB : Ad p HB [.int (P.bs.length : Int),.int (-1),.none,.bool false,.tuple [.int 0]] [.int (P.bs.length : Int),.int (-1),.non,.bl false,.ref tz] := .cons Aa.int (.cons Aa.int (.cons Aa.non (.cons Aa.bl (.cons (Aa.tup (sHB _ _ kz) (.cons Aa.int .nil)) .nil))))
     have noLB := RM P.bs.length
     refine ⟨LB,rfl,⟨_,Am.of kLB⟩,DQ (xs := [.int (P.bs.length : Int),.int (-1),.non,.bl false,.ref tz]) (fun i σ H' => (∃ x14,σ = [some (.ref a),some (.int c),some (.ref p),some (.ref PA),some (.ref SA),some v',some u',some (.int S.ex.length),some (.int P.bs.length),some (.bl lit),some v1,some u1,some (.str due),some (.ref Rr),x14]) /\ Av p HB H' /\ AU p H' /\ TabIn H' TB CH) ⟨⟨_,rfl⟩,Av.refl,pnHB,tbHB⟩ (fun i σ H' _ h => Am.of (h.2.1.lst kLB nLB)) (fun i y σ Hm hx h => ?_) fun σ Hm h => ?_⟩
     ·obtain ⟨⟨x14,rfl⟩,em,pnm,tbm⟩ := h
      obtain ⟨d,hd,rd0⟩ := rsLB.got hx
      have nod := noLB d (List.mem_of_getElem? hd)
      have rd := Aa.evT em _ _ rd0
      refine fun Lq Hq sq hLq kLq => ⟨pnm.same sq,by decide,by decide,fun gq Hg ag cg eg png => ?_⟩
      have nLq : Lq ≠ p := pnm.ne hLq
      obtain ⟨hv,mhv,hat⟩ := C6 (ns := [0,99]) ag (by simpa using cg)
      refine ⟨Lq,_,gq,.int hv,rfl,rfl,Am.of (eg.lst kLq nLq),hat,?_⟩
      have emg := em.trans ((Av.same (p := p) sq).trans (Av.ev eg))
      have hb : B3 d (.int hv) P1 S1 = "boiler" := by unfold B3; rw [eb1,if_neg (by rw [nod]; decide)]
      refine ⟨p,d,.int hv,Do W (Bj (.int hv) P1 S1) "boiler",Aa.evT emg _ _ rd0,Aa.int,png,(tbm.same sq).ev eg,⟨_,_,_,.inr (.inr ⟨P1,S1,ok1,so1,Aa.evT emg _ _ rvB,Aa.evT emg _ _ ruB,hw.symm⟩),.inr (.inr ⟨P1,S1,ok1,so1,Aa.evT emg _ _ rvB,Aa.evT emg _ _ ruB,rfl⟩),.inr (.inr ⟨P1,S1,ok1,so1,Aa.evT emg _ _ rvB,Aa.evT emg _ _ ruB,hb.symm⟩),rfl⟩,fun R2 H2 xs2 ds2 e2 pn2 tb2 hR2 nR2 kR2 rs2 o2 => ?_⟩
      obtain ⟨d1,d2,d3,d4,d5,d6,y1,y2,y3,y4,y5,y6,rfl,q1,q2,q3,q4,q5,q6,r1,r2,r3,r4,r5,r6⟩ := (Et rs2 o2).ex
      obtain rfl := q6.word (by decide)
      refine ⟨R2,_,5,y6,rfl,rfl,Am.of kR2,rfl,fun t5 H5 s5 k5 => ?_⟩
      refine ⟨p,.tuple [.str "boiler"],.tuple [.str "boiler"],Aa.ev (fS s5) _ _ r6,Aa.tup k5 (.cons Aa.str .nil),by decide +kernel,by decide +kernel,by decide +kernel,by decide +kernel,by decide +kernel,?_⟩
      rw [PN]
      exact ⟨fun cc => (by cases cc),fun _ => ⟨⟨_,rfl⟩,emg.trans (e2.trans (Av.same s5)),pn2.same s5,tb2.same s5⟩⟩
     obtain ⟨⟨x14,rfl⟩,emHB,pnzHB,tbzHB⟩ := h
     obtain ⟨TA,TB1,TE,xf1,rfl,tA,tB,tE,rf1⟩ := Aa.story (Aa.evT emHB _ _ ruB)
     refine fun a1 G1 g1 q1 => ⟨a1,9,[.int 0],rfl,rfl,q1,by simp,by decide,by decide,(show 1 <= 100 from by decide),fun a2 G2 g2 q2 => fun a3 G3 g3 q3 => fun a4 G4 g4 q4 => ?_⟩
     have g14 := g1.trans (g2.trans (g3.trans g4))
     refine ⟨1,rfl,TA,_,rfl,g14 _ _ tA,fun a5 G5 g5 q5 => ?_⟩
     have g15 := g14.trans g5
     refine ⟨TA,_,rfl,.inr (Af.of (g15 _ _ tA)),fun a6 G6 g6 ha6 q6 => fun a7 G7 g7 q7 => fun a8 G8 g8 q8 => fun a9 G9 g9 q9 => fun b1' G10 g10 q10 => fun b2' G11 g11 q11 => fun b3' G12 g12 q12 => fun b4' G13 g13 q13 => fun LC HC sHC hLC kLC => ?_⟩
     have z1213 := g13.trans sHC
     have z1113 := g12.trans z1213
     have z1013 := g11.trans z1113
     have z913 := g10.trans z1013
     have z813 := g9.trans z913
     have z713 := g8.trans z813
     have z613 := g7.trans z713
     have z513 := g6.trans z613
     have z413 := g5.trans z513
     have z313 := g4.trans z413
     have z213 := g3.trans z313
     have zall := g15.trans z513
     have pnz := pnzHB.same (g15.trans (g6.trans (g7.trans (g8.trans (g9.trans (g10.trans (g11.trans (g12.trans g13))))))))
     have nLC : LC ≠ p := pnz.ne hLC
     have na6 : a6 ≠ p := (pnzHB.same g15).ne ha6
     have pnHC := pnzHB.same zall
     have tbHC := tbzHB.same zall
     have eBC := emHB.trans (Av.same (p := p) zall)
     have rvC := Aa.evT eBC _ _ rvB
     have q5' : G5 a5 = some (.tup [.ref TB1]) := by rw [q5]; exact congrArg (fun z => some (HO.tup z)) (Ib (i := 1))
     have q2' : G2 a2 = some (.tup ((List.replicate 9 (0 : Int)).map V.int)) := q2
     have rX : Aa p HC (A3 S1.ex) (.ref TB1) := Aa.row (zall _ _ tB)
     have rF : Aa p HC (.tuple (S1.fs.map FT.d)) (.ref TE) := Aa.tup (zall _ _ tE) (Ad.ev (fS zall) _ _ rf1)
     have rsLC : Ad p HC [.none,.tuple [A3 (List.replicate 9 0),.tuple []],.tuple [A3 S1.ex],.list [A3 S1.ex,.tuple (S1.fs.map FT.d)],.tuple [.tuple [.int 21],.tuple []],.tuple [.tuple [.int 0],.tuple [.tuple [.int 9,.str "out",.int 0,.int 0]]]] [.non,.ref a4,.ref a5,.ref a6,.ref a9,.ref b4'] :=
      .cons Aa.non (.cons (Aa.tup (z413 _ _ q4) (.cons (Aa.row (z213 _ _ q2')) (.cons (Aa.tup (z313 _ _ q3) .nil) .nil))) (.cons (Aa.tup (z513 _ _ q5') (.cons rX .nil)) (.cons (Aa.lst na6 (z613 _ _ q6) (.cons rX (.cons rF .nil))) (.cons (Aa.tup (z913 _ _ q9) (.cons (Aa.tup (z713 _ _ q7) (.cons Aa.int .nil)) (.cons (Aa.tup (z813 _ _ q8) .nil) .nil))) (.cons (Aa.tup (sHC _ _ q13) (.cons (Aa.tup (z1013 _ _ q10) (.cons Aa.int .nil)) (.cons (Aa.tup (z1213 _ _ q12) (.cons (Aa.tup (z1113 _ _ q11) (.cons Aa.int (.cons Aa.str (.cons Aa.int (.cons Aa.int .nil))))) .nil)) .nil))) .nil)))))
     have noLC := RI ok1 so1
     refine ⟨LC,rfl,⟨_,Am.of kLC⟩,DQ (xs := [.non,.ref a4,.ref a5,.ref a6,.ref a9,.ref b4']) (fun i σ H' => (∃ x14,σ = [some (.ref a),some (.int c),some (.ref p),some (.ref PA),some (.ref SA),some v',some u',some (.int S.ex.length),some (.int P.bs.length),some (.bl lit),some v1,some (.ref TA),some (.str due),some (.ref Rr),x14]) /\ Av p HC H' /\ AU p H' /\ TabIn H' TB CH) ⟨⟨_,rfl⟩,Av.refl,pnHC,tbHC⟩ (fun i σ H' _ h => Am.of (h.2.1.lst kLC nLC)) (fun i y σ Hm hx h => ?_) fun σ Hm h => ?_⟩
     ·obtain ⟨⟨x14,rfl⟩,em,pnm,tbm⟩ := h
      obtain ⟨d,hd,rd0⟩ := rsLC.got hx
      have nod := noLC d (List.mem_of_getElem? hd)
      have rd := Aa.evT em _ _ rd0
      refine ⟨p,.none,.none,Do "story" "story" "story",Aa.non,Aa.non,pnm,tbm,⟨_,_,_,.inr (.inl ⟨P1,d,ok1,Aa.evT em _ _ rvC,rd,nod.1,nod.2,rfl⟩),.inr (.inl ⟨P1,d,ok1,Aa.evT em _ _ rvC,rd,nod.1,nod.2,rfl⟩),.inr (.inl ⟨P1,d,ok1,Aa.evT em _ _ rvC,rd,nod.1,nod.2,rfl⟩),rfl⟩,fun R2 H2 xs2 ds2 e2 pn2 tb2 hR2 nR2 kR2 rs2 o2 => ?_⟩
      obtain ⟨d1,d2,d3,d4,d5,d6,y1,y2,y3,y4,y5,y6,rfl,q1,q2,q3,q4,q5,q6,r1,r2,r3,r4,r5,r6⟩ := (Et rs2 o2).ex
      obtain rfl := q1.word (by decide)
      obtain rfl := q2.word (by decide)
      obtain rfl := q3.word (by decide)
      obtain rfl := q4.word (by decide)
      obtain rfl := q5.word (by decide)
      obtain rfl := q6.word (by decide)
      refine fun t5 H5 s5 k5 => fun L6 H6 s6 hL6 kL6 => ⟨L6,6,_,rfl,rfl,kL6,by decide,by decide,Bl rfl,fun L7 hL7 => ?_⟩
      have n7 := Ab.new (o := .lst (List.replicate (6 : Int).toNat [V.ref t5]).flatten) hL7
      have nL7 : L7 ≠ p := (pn2.same (s5.trans s6)).ne hL7
      have kL7 : upd H6 L7 (.lst (List.replicate (6 : Int).toNat [V.ref t5]).flatten) L7 = some (.lst [.ref t5,.ref t5,.ref t5,.ref t5,.ref t5,.ref t5]) := Ai
      generalize upd H6 L7 (.lst (List.replicate (6 : Int).toNat [V.ref t5]).flatten) = H7 at n7 kL7 ⊢
      have s27 := s5.trans (s6.trans n7)
      have rt := Aa.tup (p := p) ((s6.trans n7) _ _ k5) (.cons (Aa.str (i := "story")) .nil)
      refine ⟨p,.list [.tuple [.str "story"],.tuple [.str "story"],.tuple [.str "story"],.tuple [.str "story"],.tuple [.str "story"],.tuple [.str "story"]],.list [.tuple [.str "story"],.tuple [.str "story"],.tuple [.str "story"],.tuple [.str "story"],.tuple [.str "story"],.tuple [.str "story"]],Aa.lst nR2 (s27 _ _ kR2) (.cons (Aa.ev (fS s27) _ _ r1) (.cons (Aa.ev (fS s27) _ _ r2) (.cons (Aa.ev (fS s27) _ _ r3) (.cons (Aa.ev (fS s27) _ _ r4) (.cons (Aa.ev (fS s27) _ _ r5) (.cons (Aa.ev (fS s27) _ _ r6) .nil)))))),Aa.lst nL7 kL7 (.cons rt (.cons rt (.cons rt (.cons rt (.cons rt (.cons rt .nil)))))),by decide +kernel,by decide +kernel,by decide +kernel,by decide +kernel,by decide +kernel,?_⟩
      rw [RE]
      exact ⟨fun cc => (by cases cc),fun _ => ⟨⟨_,rfl⟩,em.trans (e2.trans (Av.same s27)),pn2.same s27,tb2.same s27⟩⟩
     obtain ⟨⟨x14,rfl⟩,emHC,pnzHC,tbzHC⟩ := h
     exact ⟨⟨_,_,_,_,_,rfl⟩,ea.trans (ead.trans ((Av.same (p := p) sHA).trans (eAB.trans (eBC.trans emHC)))),pnzHC,tbzHC⟩
   obtain ⟨⟨x10,x11,x12,x13,x14,rfl⟩,ea,pna,tba⟩ := h
   have hLa := ea.lst hL9 nLp
   obtain ⟨QA,QB,QE,QM,xb1,xe1,eQ,qA,qB,rqb,qE,rqe,qM⟩ := Aa.plant (Aa.evT ea _ _ rv9)
   cases eQ
   have rud := Aa.evT ea _ _ ru9
   refine ⟨2,rfl,PA,_,rfl,qA,fun a1 G1 g1 q1 => ?_⟩
   have q1' : G1 a1 = some (.tup [.ref QB,.ref QE]) := by rw [q1]; exact congrArg (fun z => some (HO.tup z)) (Ib (i := 2))
   refine ⟨PA,_,rfl,.inr (Af.of (g1 _ _ qA)),fun a2 G2 g2 ha2 q2 => ?_⟩
   have g12 := g1.trans g2
   refine ⟨PA,_,0,.ref QB,rfl,rfl,Af.of (g12 _ _ qA),rfl,PA,_,1,.ref QE,rfl,rfl,Af.of (g12 _ _ qA),rfl,fun a3 G3 g3 q3 => fun a4 G4 g4 q4 => fun a5 G5 g5 q5 => fun a6 G6 g6 q6 => fun a7 G7 g7 q7 => fun a8 G8 g8 q8 => fun LD HD sHD hLD kLD => ?_⟩
   have z8 := sHD
   have z7 := g8.trans z8
   have z6 := g7.trans z7
   have z5 := g6.trans z6
   have z4 := g5.trans z5
   have z3 := g4.trans z4
   have z2 := g3.trans z3
   have z1 := g2.trans z2
   have zall := g1.trans z1
   have nLD : LD ≠ p := (pna.same (g1.trans (g2.trans (g3.trans (g4.trans (g5.trans (g6.trans (g7.trans g8)))))))).ne hLD
   have na2 : a2 ≠ p := (pna.same g1).ne ha2
   have pnHD := pna.same zall
   have tbHD := tba.same zall
   have hLD' := zall _ _ hLa
   have rB : Aa p HD (.tuple (P.bs.map bD)) (.ref QB) := Aa.tup (zall _ _ qB) (Ad.ev (fS zall) _ _ rqb)
   have rE : Aa p HD (.tuple (P.es.map eD)) (.ref QE) := Aa.tup (zall _ _ qE) (Ad.ev (fS zall) _ _ rqe)
   have rM : Aa p HD (.tuple [.int P.lo,.int P.hi,.int P.st]) (.ref QM) := Aa.tup (zall _ _ qM) (.cons Aa.int (.cons Aa.int (.cons Aa.int .nil)))
   have ruD := Aa.ev (fS zall) _ _ rud
   have rsLD : Ad p HD [.none,.tuple [.tuple (P.bs.map bD),.tuple (P.es.map eD)],.list [.tuple (P.bs.map bD),.tuple (P.es.map eD),.tuple [.int P.lo,.int P.hi,.int P.st]],.tuple [.tuple (P.bs.map bD),.tuple (P.es.map eD),.tuple [.int 1,.int 0,.int 0]],.tuple [.tuple [],.tuple [],.tuple [.int 0,.int 0,.int 0]],S.d] [.non,.ref a1,.ref a2,.ref a4,.ref a8,.ref SA] :=
    .cons Aa.non (.cons (Aa.tup (z1 _ _ q1') (.cons rB (.cons rE .nil))) (.cons (Aa.lst na2 (z2 _ _ q2) (.cons rB (.cons rE (.cons rM .nil)))) (.cons (Aa.tup (z4 _ _ q4) (.cons rB (.cons rE (.cons (Aa.tup (z3 _ _ q3) (.cons Aa.int (.cons Aa.int (.cons Aa.int .nil)))) .nil)))) (.cons (Aa.tup (z8 _ _ q8) (.cons (Aa.tup (z5 _ _ q5) .nil) (.cons (Aa.tup (z6 _ _ q6) .nil) (.cons (Aa.tup (z7 _ _ q7) (.cons Aa.int (.cons Aa.int (.cons Aa.int .nil)))) .nil)))) (.cons ruD .nil)))))
   have noLD := RJ (P := P) (S := S)
   refine ⟨LD,rfl,⟨_,Am.of kLD⟩,DQ (xs := [.non,.ref a1,.ref a2,.ref a4,.ref a8,.ref SA]) (fun i σ H' => (∃ x14,σ = [some (.ref a),some (.int c),some (.ref p),some (.ref PA),some (.ref SA),some v',some u',some (.int S.ex.length),some (.int P.bs.length),some (.bl lit),x10,x11,x12,x13,x14]) /\ Av p HD H' /\ AU p H' /\ TabIn H' TB CH) ⟨⟨_,rfl⟩,Av.refl,pnHD,tbHD⟩ (fun i σ H' _ h => Am.of (h.2.1.lst kLD nLD)) (fun i y σ Hm hx h => ?_) fun σ Hm h => ?_⟩
   ·obtain ⟨⟨x14,rfl⟩,em,pnm,tbm⟩ := h
    obtain ⟨d,hd,rd0⟩ := rsLD.got hx
    have nod := noLD d (List.mem_of_getElem? hd)
    have rd := Aa.evT em _ _ rd0
    refine fun Lq Hq sq hLq kLq => ⟨pnm.same sq,by decide,by decide,fun gq Hg ag cg eg png => ?_⟩
    have nLq : Lq ≠ p := pnm.ne hLq
    have emg := em.trans ((Av.same (p := p) sq).trans (Av.ev eg))
    obtain ⟨hv,hat⟩ : ∃ hv,Ce [V.ref SA,V.non] gq = some hv := by
     have : gq = 0 \/ gq = 1 := by omega
     rcases this with rfl | rfl
     ·exact ⟨_,rfl⟩
     ·exact ⟨_,rfl⟩
    refine ⟨Lq,_,gq,hv,rfl,rfl,Am.of (eg.lst kLq nLq),hat,?_⟩
    refine ⟨p,.none,.int 99,Do "plant" "plant" "plant",Aa.non,Aa.int,png,(tbm.same sq).ev eg,⟨_,_,_,.inl ⟨d,Aa.evT emg _ _ rd0,nod,rfl⟩,.inl ⟨d,Aa.evT emg _ _ rd0,nod,rfl⟩,.inl ⟨d,Aa.evT emg _ _ rd0,nod,rfl⟩,rfl⟩,fun R2 H2 xs2 ds2 e2 pn2 tb2 hR2 nR2 kR2 rs2 o2 => ?_⟩
    obtain ⟨d1,d2,d3,d4,d5,d6,y1,y2,y3,y4,y5,y6,rfl,q1,q2,q3,q4,q5,q6,r1,r2,r3,r4,r5,r6⟩ := (Et rs2 o2).ex
    obtain rfl := q1.word (by decide)
    obtain rfl := q2.word (by decide)
    obtain rfl := q3.word (by decide)
    obtain rfl := q4.word (by decide)
    obtain rfl := q5.word (by decide)
    obtain rfl := q6.word (by decide)
    refine fun t5 H5 s5 k5 => fun L6 H6 s6 hL6 kL6 => ⟨L6,6,_,rfl,rfl,kL6,by decide,by decide,Bl rfl,fun L7 hL7 => ?_⟩
    have n7 := Ab.new (o := .lst (List.replicate (6 : Int).toNat [V.ref t5]).flatten) hL7
    have nL7 : L7 ≠ p := (pn2.same (s5.trans s6)).ne hL7
    have kL7 : upd H6 L7 (.lst (List.replicate (6 : Int).toNat [V.ref t5]).flatten) L7 = some (.lst [.ref t5,.ref t5,.ref t5,.ref t5,.ref t5,.ref t5]) := Ai
    generalize upd H6 L7 (.lst (List.replicate (6 : Int).toNat [V.ref t5]).flatten) = H7 at n7 kL7 ⊢
    have s27 := s5.trans (s6.trans n7)
    have rt := Aa.tup (p := p) ((s6.trans n7) _ _ k5) (.cons (Aa.str (i := "plant")) .nil)
    refine ⟨p,.list [.tuple [.str "plant"],.tuple [.str "plant"],.tuple [.str "plant"],.tuple [.str "plant"],.tuple [.str "plant"],.tuple [.str "plant"]],.list [.tuple [.str "plant"],.tuple [.str "plant"],.tuple [.str "plant"],.tuple [.str "plant"],.tuple [.str "plant"],.tuple [.str "plant"]],Aa.lst nR2 (s27 _ _ kR2) (.cons (Aa.ev (fS s27) _ _ r1) (.cons (Aa.ev (fS s27) _ _ r2) (.cons (Aa.ev (fS s27) _ _ r3) (.cons (Aa.ev (fS s27) _ _ r4) (.cons (Aa.ev (fS s27) _ _ r5) (.cons (Aa.ev (fS s27) _ _ r6) .nil)))))),Aa.lst nL7 kL7 (.cons rt (.cons rt (.cons rt (.cons rt (.cons rt (.cons rt .nil)))))),by decide +kernel,by decide +kernel,by decide +kernel,by decide +kernel,by decide +kernel,?_⟩
    rw [RF]
    exact ⟨fun cc => (by cases cc),fun _ => ⟨⟨_,rfl⟩,emg.trans (e2.trans (Av.same s27)),pn2.same s27,tb2.same s27⟩⟩
   obtain ⟨⟨x14,rfl⟩,emHD,pnzHD,tbzHD⟩ := h
   exact ⟨⟨_,_,_,_,_,_,_,_,_,_,_,_,_,_,rfl⟩,emHD.lst hLD' nLp,tbzHD⟩
 ·exact h.elim
end
end MF
end
section
namespace MF
open PySem PySem.Spec PyProof.Rows L2
variable {h : Heap} {ps : List Str} {oc doc pm : Value} {od an : Option Addr} {sl : Array (Option Value)}
theorem AG {K : PySem.W.Frag} {mg : Str -> Option Value} {x : Str} {st : Stmt} {f : Addr} {kV cd ct : Value} (X : K.In h) (G : h.Ns mainGlobals mg)
  (a : PySem.W.nsIn K mainGlobals x = some (some (.ref f))) (l : K.lookup f = some ⟨oc,od,.func (PySem.W.fnOf x x (Cz st) (Bv st) (Aq st) .none kV doc pm an cd ct),sl⟩) (c : PySem.W.codeIn K cd x = true) (k : PySem.W.keepIn K (.ref f) = true)
  (hb : ∀ (kV doc pm : Value) (an : Option Addr) (cdv ct : Value) (us : List Value),us.length = ps.length -> bindArgs (PySem.W.fnOf x x (Cz st) (Bv st) (Aq st) .none kV doc pm an cdv ct) ⟨us,[]⟩ = pure (ps.zip us)) : Df K mg x st ps :=
 ⟨f,_,Fe l c k,PySem.W.mg_of X G a,(Fe l c k).binds hb⟩
theorem RO {K : PySem.W.Frag} {mg : Str -> Option Value} {x : Str} {st : Stmt} {f c : Addr} {kV ct : Value} (X : K.In h) (G : h.Ns mainGlobals mg)
  (a : PySem.W.nsIn K mainGlobals x = some (some (.ref f))) (l : K.lookup f = some ⟨oc,od,.func (PySem.W.fnOf x x (Cz st) (Bv st) (Aq st) .none kV doc pm an (.ref c) ct),sl⟩) (hc : PySem.W.codeIn K (.ref c) x = true) (k : PySem.W.keepIn K (.ref f) = true)
  (hb : ∀ (kV doc pm : Value) (an : Option Addr) (cdv ct : Value) (us : List Value),us.length = ps.length -> bindArgs (PySem.W.fnOf x x (Cz st) (Bv st) (Aq st) .none kV doc pm an cdv ct) ⟨us,[]⟩ = pure (ps.zip us)) : ET K mg x st ps c :=
 ⟨⟨f,_,⟨_,_,_,_,_,_,_,_,rfl,l,hc⟩,PySem.W.mg_of X G a,k,(Fe l hc k).binds hb⟩⟩
theorem RP {K : PySem.W.Frag} {x : Str} {f c T : Addr} {fd : FuncData} (a : PySem.W.nsIn K mainGlobals x = some (some (.ref f))) (l : K.lookup f = some ⟨oc,od,.func fd,sl⟩) (t : PySem.W.tabIn K x = some (c,T)) : fd.code = .ref c := by
 unfold PySem.W.tabIn at t
 rw [a] at t
 simp only [l] at t
 split at t
 ·rename_i c' hc
  split at t
  ·split at t
   ·have t' := Option.some.inj t
    have e : c' = c := congrArg Prod.fst t'
    rw [hc,e]
   ·cases t
  ·cases t
 ·cases t
abbrev FnAt (x : Str) (st : Stmt) (kV dc pm : Value) (an : Option Addr) (cd ct : Value) : FuncData := PySem.W.fnOf x x (Cz st) (Bv st) (Aq st) .none kV dc pm an cd ct
open PySem.W in
theorem all_mk {l : OpenLaw} {w : World} {K : Frag} {mg : Str -> Option Value} {fa c TB : Addr} (X : K.In h) (G : h.Ns mainGlobals mg) (hfa : mg "law" = some (.ref fa)) (ht : tabIn K "_law_four" = some (c,TB))
  {f0 f1 f2 f3 f4 f5 f6 f7 f8 f9 f10 f11 f12 f13 f14 f15 f16 f17 f18 f19 f20 f21 f22 f23 f24 f25 f26 f27 f28 f29 f30 f31 f32 f33 f34 f35 f36 f37 f38 f39 f40 f41 f42 f43 f44 f45 f46 f47 f48 f49 f50 f51 : Addr} {R0 N0 R1 N1 R2 N2 R3 N3 R4 N4 R5 N5 R6 N6 R7 N7 R8 N8 R9 N9 R10 N10 R11 N11 R12 N12 R13 N13 R14 N14 R15 N15 R16 N16 R17 N17 R18 N18 R19 N19 R20 N20 R21 N21 R22 N22 R23 N23 R24 N24 R25 N25 R26 N26 R27 N27 R28 N28 R29 N29 R30 N30 R31 N31 R32 N32 R33 N33 R34 N34 R35 N35 R36 N36 R37 N37 R38 N38 R39 N39 R40 N40 R41 N41 R42 N42 R43 N43 R44 N44 R45 N45 R46 N46 R47 N47 R48 N48 R49 N49 R50 N50 R51 N51 : Option Addr} {S0 S1 S2 S3 S4 S5 S6 S7 S8 S9 S10 S11 S12 S13 S14 S15 S16 S17 S18 S19 S20 S21 S22 S23 S24 S25 S26 S27 S28 S29 S30 S31 S32 S33 S34 S35 S36 S37 S38 S39 S40 S41 S42 S43 S44 S45 S46 S47 S48 S49 S50 S51 : Array (Option Value)} {O0 V0 U0 W0 Y0 Z0 O1 V1 U1 W1 Y1 Z1 O2 V2 U2 W2 Y2 Z2 O3 V3 U3 W3 Y3 Z3 O4 V4 U4 W4 Y4 Z4 O5 V5 U5 W5 Y5 Z5 O6 V6 U6 W6 Y6 Z6 O7 V7 U7 W7 Y7 Z7 O8 V8 U8 W8 Y8 Z8 O9 V9 U9 W9 Y9 Z9 O10 V10 U10 W10 Y10 Z10 O11 V11 U11 W11 Y11 Z11 O12 V12 U12 W12 Y12 Z12 O13 V13 U13 W13 Y13 Z13 O14 V14 U14 W14 Y14 Z14 O15 V15 U15 W15 Y15 Z15 O16 V16 U16 W16 Y16 Z16 O17 V17 U17 W17 Y17 Z17 O18 V18 U18 W18 Y18 Z18 O19 V19 U19 W19 Y19 Z19 O20 V20 U20 W20 Y20 Z20 O21 V21 U21 W21 Y21 Z21 O22 V22 U22 W22 Y22 Z22 O23 V23 U23 W23 Y23 Z23 O24 V24 U24 W24 Y24 Z24 O25 V25 U25 W25 Y25 Z25 O26 V26 U26 W26 Y26 Z26 O27 V27 U27 W27 Y27 Z27 O28 V28 U28 W28 Y28 Z28 O29 V29 U29 W29 Y29 Z29 O30 V30 U30 W30 Y30 Z30 O31 V31 U31 W31 Y31 Z31 O32 V32 U32 W32 Y32 Z32 O33 V33 U33 W33 Y33 Z33 O34 V34 U34 W34 Y34 Z34 O35 V35 U35 W35 Y35 Z35 O36 V36 U36 W36 Y36 Z36 O37 V37 U37 W37 Y37 Z37 O38 V38 U38 W38 Y38 Z38 O39 V39 U39 W39 Y39 Z39 O40 V40 U40 W40 Y40 Z40 O41 V41 U41 W41 Y41 Z41 O42 V42 U42 W42 Y42 Z42 O43 V43 U43 W43 Y43 Z43 O44 V44 U44 W44 Y44 Z44 O45 V45 U45 W45 Y45 Z45 O46 V46 U46 W46 Y46 Z46 O47 V47 U47 W47 Y47 Z47 O48 V48 U48 W48 Y48 Z48 O49 V49 U49 W49 Y49 Z49 O50 V50 U50 W50 Y50 Z50 O51 V51 U51 W51 Y51 Z51 : Value}
  (a0 : nsIn K mainGlobals "_law_caps" = some (some (.ref f0))) (l0 : K.lookup f0 = some ⟨O0,R0,.func (FnAt "_law_caps" s__law_caps V0 U0 W0 N0 Y0 Z0),S0⟩) (c0 : codeIn K Y0 "_law_caps" = true) (k0 : keepIn K (.ref f0) = true)
  (a1 : nsIn K mainGlobals "_law_cell" = some (some (.ref f1))) (l1 : K.lookup f1 = some ⟨O1,R1,.func (FnAt "_law_cell" s__law_cell V1 U1 W1 N1 Y1 Z1),S1⟩) (c1 : codeIn K Y1 "_law_cell" = true) (k1 : keepIn K (.ref f1) = true)
  (a2 : nsIn K mainGlobals "_law_draw" = some (some (.ref f2))) (l2 : K.lookup f2 = some ⟨O2,R2,.func (FnAt "_law_draw" s__law_draw V2 U2 W2 N2 Y2 Z2),S2⟩) (c2 : codeIn K Y2 "_law_draw" = true) (k2 : keepIn K (.ref f2) = true)
  (a3 : nsIn K mainGlobals "_law_dry" = some (some (.ref f3))) (l3 : K.lookup f3 = some ⟨O3,R3,.func (FnAt "_law_dry" s__law_dry V3 U3 W3 N3 Y3 Z3),S3⟩) (c3 : codeIn K Y3 "_law_dry" = true) (k3 : keepIn K (.ref f3) = true)
  (a4 : nsIn K mainGlobals "_law_which" = some (some (.ref f4))) (l4 : K.lookup f4 = some ⟨O4,R4,.func (FnAt "_law_which" s__law_which V4 U4 W4 N4 Y4 Z4),S4⟩) (c4 : codeIn K Y4 "_law_which" = true) (k4 : keepIn K (.ref f4) = true)
  (a5 : nsIn K mainGlobals "_law_said" = some (some (.ref f5))) (l5 : K.lookup f5 = some ⟨O5,R5,.func (FnAt "_law_said" s__law_said V5 U5 W5 N5 Y5 Z5),S5⟩) (c5 : codeIn K Y5 "_law_said" = true) (k5 : keepIn K (.ref f5) = true)
  (a6 : nsIn K mainGlobals "replaced" = some (some (.ref f6))) (l6 : K.lookup f6 = some ⟨O6,R6,.func (FnAt "replaced" s_replaced V6 U6 W6 N6 Y6 Z6),S6⟩) (c6 : codeIn K Y6 "replaced" = true) (k6 : keepIn K (.ref f6) = true)
  (a7 : nsIn K mainGlobals "added" = some (some (.ref f7))) (l7 : K.lookup f7 = some ⟨O7,R7,.func (FnAt "added" s_added V7 U7 W7 N7 Y7 Z7),S7⟩) (c7 : codeIn K Y7 "added" = true) (k7 : keepIn K (.ref f7) = true)
  (a8 : nsIn K mainGlobals "floor_at" = some (some (.ref f8))) (l8 : K.lookup f8 = some ⟨O8,R8,.func (FnAt "floor_at" s_floor_at V8 U8 W8 N8 Y8 Z8),S8⟩) (c8 : codeIn K Y8 "floor_at" = true) (k8 : keepIn K (.ref f8) = true)
  (a9 : nsIn K mainGlobals "tails_from" = some (some (.ref f9))) (l9 : K.lookup f9 = some ⟨O9,R9,.func (FnAt "tails_from" s_tails_from V9 U9 W9 N9 Y9 Z9),S9⟩) (c9 : codeIn K Y9 "tails_from" = true) (k9 : keepIn K (.ref f9) = true)
  (a10 : nsIn K mainGlobals "highest_floor" = some (some (.ref f10))) (l10 : K.lookup f10 = some ⟨O10,R10,.func (FnAt "highest_floor" s_highest_floor V10 U10 W10 N10 Y10 Z10),S10⟩) (c10 : codeIn K Y10 "highest_floor" = true) (k10 : keepIn K (.ref f10) = true)
  (a11 : nsIn K mainGlobals "is_too_much" = some (some (.ref f11))) (l11 : K.lookup f11 = some ⟨O11,R11,.func (FnAt "is_too_much" s_is_too_much V11 U11 W11 N11 Y11 Z11),S11⟩) (c11 : codeIn K Y11 "is_too_much" = true) (k11 : keepIn K (.ref f11) = true)
  (a12 : nsIn K mainGlobals "least_stretch" = some (some (.ref f12))) (l12 : K.lookup f12 = some ⟨O12,R12,.func (FnAt "least_stretch" s_least_stretch V12 U12 W12 N12 Y12 Z12),S12⟩) (c12 : codeIn K Y12 "least_stretch" = true) (k12 : keepIn K (.ref f12) = true)
  (a13 : nsIn K mainGlobals "coal_under" = some (some (.ref f13))) (l13 : K.lookup f13 = some ⟨O13,R13,.func (FnAt "coal_under" s_coal_under V13 U13 W13 N13 Y13 Z13),S13⟩) (c13 : codeIn K Y13 "coal_under" = true) (k13 : keepIn K (.ref f13) = true)
  (a14 : nsIn K mainGlobals "coal_or_refuse" = some (some (.ref f14))) (l14 : K.lookup f14 = some ⟨O14,R14,.func (FnAt "coal_or_refuse" s_coal_or_refuse V14 U14 W14 N14 Y14 Z14),S14⟩) (c14 : codeIn K Y14 "coal_or_refuse" = true) (k14 : keepIn K (.ref f14) = true)
  (a15 : nsIn K mainGlobals "is_whole" = some (some (.ref f15))) (l15 : K.lookup f15 = some ⟨O15,R15,.func (FnAt "is_whole" s_is_whole V15 U15 W15 N15 Y15 Z15),S15⟩) (c15 : codeIn K Y15 "is_whole" = true) (k15 : keepIn K (.ref f15) = true)
  (a16 : nsIn K mainGlobals "is_whole_from" = some (some (.ref f16))) (l16 : K.lookup f16 = some ⟨O16,R16,.func (FnAt "is_whole_from" s_is_whole_from V16 U16 W16 N16 Y16 Z16),S16⟩) (c16 : codeIn K Y16 "is_whole_from" = true) (k16 : keepIn K (.ref f16) = true)
  (a17 : nsIn K mainGlobals "need_boiler" = some (some (.ref f17))) (l17 : K.lookup f17 = some ⟨O17,R17,.func (FnAt "need_boiler" s_need_boiler V17 U17 W17 N17 Y17 Z17),S17⟩) (c17 : codeIn K Y17 "need_boiler" = true) (k17 : keepIn K (.ref f17) = true)
  (a18 : nsIn K mainGlobals "need_hour" = some (some (.ref f18))) (l18 : K.lookup f18 = some ⟨O18,R18,.func (FnAt "need_hour" s_need_hour V18 U18 W18 N18 Y18 Z18),S18⟩) (c18 : codeIn K Y18 "need_hour" = true) (k18 : keepIn K (.ref f18) = true)
  (a19 : nsIn K mainGlobals "cap_under" = some (some (.ref f19))) (l19 : K.lookup f19 = some ⟨O19,R19,.func (FnAt "cap_under" s_cap_under V19 U19 W19 N19 Y19 Z19),S19⟩) (c19 : codeIn K Y19 "cap_under" = true) (k19 : keepIn K (.ref f19) = true)
  (a20 : nsIn K mainGlobals "words_for" = some (some (.ref f20))) (l20 : K.lookup f20 = some ⟨O20,R20,.func (FnAt "words_for" s_words_for V20 U20 W20 N20 Y20 Z20),S20⟩) (c20 : codeIn K Y20 "words_for" = true) (k20 : keepIn K (.ref f20) = true)
  (a21 : nsIn K mainGlobals "caps_in" = some (some (.ref f21))) (l21 : K.lookup f21 = some ⟨O21,R21,.func (FnAt "caps_in" s_caps_in V21 U21 W21 N21 Y21 Z21),S21⟩) (c21 : codeIn K Y21 "caps_in" = true) (k21 : keepIn K (.ref f21) = true)
  (a22 : nsIn K mainGlobals "is_tuple_of" = some (some (.ref f22))) (l22 : K.lookup f22 = some ⟨O22,R22,.func (FnAt "is_tuple_of" s_is_tuple_of V22 U22 W22 N22 Y22 Z22),S22⟩) (c22 : codeIn K Y22 "is_tuple_of" = true) (k22 : keepIn K (.ref f22) = true)
  (a23 : nsIn K mainGlobals "is_fault" = some (some (.ref f23))) (l23 : K.lookup f23 = some ⟨O23,R23,.func (FnAt "is_fault" s_is_fault V23 U23 W23 N23 Y23 Z23),S23⟩) (c23 : codeIn K Y23 "is_fault" = true) (k23 : keepIn K (.ref f23) = true)
  (a24 : nsIn K mainGlobals "is_make_and_coal" = some (some (.ref f24))) (l24 : K.lookup f24 = some ⟨O24,R24,.func (FnAt "is_make_and_coal" s_is_make_and_coal V24 U24 W24 N24 Y24 Z24),S24⟩) (c24 : codeIn K Y24 "is_make_and_coal" = true) (k24 : keepIn K (.ref f24) = true)
  (a25 : nsIn K mainGlobals "are_boilers" = some (some (.ref f25))) (l25 : K.lookup f25 = some ⟨O25,R25,.func (FnAt "are_boilers" s_are_boilers V25 U25 W25 N25 Y25 Z25),S25⟩) (c25 : codeIn K Y25 "are_boilers" = true) (k25 : keepIn K (.ref f25) = true)
  (a26 : nsIn K mainGlobals "is_engine" = some (some (.ref f26))) (l26 : K.lookup f26 = some ⟨O26,R26,.func (FnAt "is_engine" s_is_engine V26 U26 W26 N26 Y26 Z26),S26⟩) (c26 : codeIn K Y26 "is_engine" = true) (k26 : keepIn K (.ref f26) = true)
  (a27 : nsIn K mainGlobals "are_engines" = some (some (.ref f27))) (l27 : K.lookup f27 = some ⟨O27,R27,.func (FnAt "are_engines" s_are_engines V27 U27 W27 N27 Y27 Z27),S27⟩) (c27 : codeIn K Y27 "are_engines" = true) (k27 : keepIn K (.ref f27) = true)
  (a28 : nsIn K mainGlobals "is_main" = some (some (.ref f28))) (l28 : K.lookup f28 = some ⟨O28,R28,.func (FnAt "is_main" s_is_main V28 U28 W28 N28 Y28 Z28),S28⟩) (c28 : codeIn K Y28 "is_main" = true) (k28 : keepIn K (.ref f28) = true)
  (a29 : nsIn K mainGlobals "is_plant" = some (some (.ref f29))) (l29 : K.lookup f29 = some ⟨O29,R29,.func (FnAt "is_plant" s_is_plant V29 U29 W29 N29 Y29 Z29),S29⟩) (c29 : codeIn K Y29 "is_plant" = true) (k29 : keepIn K (.ref f29) = true)
  (a30 : nsIn K mainGlobals "need_plant" = some (some (.ref f30))) (l30 : K.lookup f30 = some ⟨O30,R30,.func (FnAt "need_plant" s_need_plant V30 U30 W30 N30 Y30 Z30),S30⟩) (c30 : codeIn K Y30 "need_plant" = true) (k30 : keepIn K (.ref f30) = true)
  (a31 : nsIn K mainGlobals "is_story" = some (some (.ref f31))) (l31 : K.lookup f31 = some ⟨O31,R31,.func (FnAt "is_story" s_is_story V31 U31 W31 N31 Y31 Z31),S31⟩) (c31 : codeIn K Y31 "is_story" = true) (k31 : keepIn K (.ref f31) = true)
  (a32 : nsIn K mainGlobals "need_story" = some (some (.ref f32))) (l32 : K.lookup f32 = some ⟨O32,R32,.func (FnAt "need_story" s_need_story V32 U32 W32 N32 Y32 Z32),S32⟩) (c32 : codeIn K Y32 "need_story" = true) (k32 : keepIn K (.ref f32) = true)
  (a33 : nsIn K mainGlobals "caps_of" = some (some (.ref f33))) (l33 : K.lookup f33 = some ⟨O33,R33,.func (FnAt "caps_of" s_caps_of V33 U33 W33 N33 Y33 Z33),S33⟩) (c33 : codeIn K Y33 "caps_of" = true) (k33 : keepIn K (.ref f33) = true)
  (a34 : nsIn K mainGlobals "drawn_by" = some (some (.ref f34))) (l34 : K.lookup f34 = some ⟨O34,R34,.func (FnAt "drawn_by" s_drawn_by V34 U34 W34 N34 Y34 Z34),S34⟩) (c34 : codeIn K Y34 "drawn_by" = true) (k34 : keepIn K (.ref f34) = true)
  (a35 : nsIn K mainGlobals "draws_of" = some (some (.ref f35))) (l35 : K.lookup f35 = some ⟨O35,R35,.func (FnAt "draws_of" s_draws_of V35 U35 W35 N35 Y35 Z35),S35⟩) (c35 : codeIn K Y35 "draws_of" = true) (k35 : keepIn K (.ref f35) = true)
  (a36 : nsIn K mainGlobals "terms_of" = some (some (.ref f36))) (l36 : K.lookup f36 = some ⟨O36,R36,.func (FnAt "terms_of" s_terms_of V36 U36 W36 N36 Y36 Z36),S36⟩) (c36 : codeIn K Y36 "terms_of" = true) (k36 : keepIn K (.ref f36) = true)
  (a37 : nsIn K mainGlobals "better" = some (some (.ref f37))) (l37 : K.lookup f37 = some ⟨O37,R37,.func (FnAt "better" s_better V37 U37 W37 N37 Y37 Z37),S37⟩) (c37 : codeIn K Y37 "better" = true) (k37 : keepIn K (.ref f37) = true)
  (a38 : nsIn K mainGlobals "fuller" = some (some (.ref f38))) (l38 : K.lookup f38 = some ⟨O38,R38,.func (FnAt "fuller" s_fuller V38 U38 W38 N38 Y38 Z38),S38⟩) (c38 : codeIn K Y38 "fuller" = true) (k38 : keepIn K (.ref f38) = true)
  (a39 : nsIn K mainGlobals "less_drawn" = some (some (.ref f39))) (l39 : K.lookup f39 = some ⟨O39,R39,.func (FnAt "less_drawn" s_less_drawn V39 U39 W39 N39 Y39 Z39),S39⟩) (c39 : codeIn K Y39 "less_drawn" = true) (k39 : keepIn K (.ref f39) = true)
  (a40 : nsIn K mainGlobals "lower" = some (some (.ref f40))) (l40 : K.lookup f40 = some ⟨O40,R40,.func (FnAt "lower" s_lower V40 U40 W40 N40 Y40 Z40),S40⟩) (c40 : codeIn K Y40 "lower" = true) (k40 : keepIn K (.ref f40) = true)
  (a41 : nsIn K mainGlobals "more_drawn" = some (some (.ref f41))) (l41 : K.lookup f41 = some ⟨O41,R41,.func (FnAt "more_drawn" s_more_drawn V41 U41 W41 N41 Y41 Z41),S41⟩) (c41 : codeIn K Y41 "more_drawn" = true) (k41 : keepIn K (.ref f41) = true)
  (a42 : nsIn K mainGlobals "wider" = some (some (.ref f42))) (l42 : K.lookup f42 = some ⟨O42,R42,.func (FnAt "wider" s_wider V42 U42 W42 N42 Y42 Z42),S42⟩) (c42 : codeIn K Y42 "wider" = true) (k42 : keepIn K (.ref f42) = true)
  (a43 : nsIn K mainGlobals "_law_four" = some (some (.ref f43))) (l43 : K.lookup f43 = some ⟨O43,R43,.func (FnAt "_law_four" s__law_four V43 U43 W43 N43 Y43 Z43),S43⟩) (c43 : codeIn K Y43 "_law_four" = true) (k43 : keepIn K (.ref f43) = true)
  (a44 : nsIn K mainGlobals "_law_draws" = some (some (.ref f44))) (l44 : K.lookup f44 = some ⟨O44,R44,.func (FnAt "_law_draws" s__law_draws V44 U44 W44 N44 Y44 Z44),S44⟩) (c44 : codeIn K Y44 "_law_draws" = true) (k44 : keepIn K (.ref f44) = true)
  (a45 : nsIn K mainGlobals "_law_mains" = some (some (.ref f45))) (l45 : K.lookup f45 = some ⟨O45,R45,.func (FnAt "_law_mains" s__law_mains V45 U45 W45 N45 Y45 Z45),S45⟩) (c45 : codeIn K Y45 "_law_mains" = true) (k45 : keepIn K (.ref f45) = true)
  (a46 : nsIn K mainGlobals "_law_keeps" = some (some (.ref f46))) (l46 : K.lookup f46 = some ⟨O46,R46,.func (FnAt "_law_keeps" s__law_keeps V46 U46 W46 N46 Y46 Z46),S46⟩) (c46 : codeIn K Y46 "_law_keeps" = true) (k46 : keepIn K (.ref f46) = true)
  (a47 : nsIn K mainGlobals "_law_plant" = some (some (.ref f47))) (l47 : K.lookup f47 = some ⟨O47,R47,.func (FnAt "_law_plant" s__law_plant V47 U47 W47 N47 Y47 Z47),S47⟩) (c47 : codeIn K Y47 "_law_plant" = true) (k47 : keepIn K (.ref f47) = true)
  (a48 : nsIn K mainGlobals "_law_story" = some (some (.ref f48))) (l48 : K.lookup f48 = some ⟨O48,R48,.func (FnAt "_law_story" s__law_story V48 U48 W48 N48 Y48 Z48),S48⟩) (c48 : codeIn K Y48 "_law_story" = true) (k48 : keepIn K (.ref f48) = true)
  (a49 : nsIn K mainGlobals "_law_pair" = some (some (.ref f49))) (l49 : K.lookup f49 = some ⟨O49,R49,.func (FnAt "_law_pair" s__law_pair V49 U49 W49 N49 Y49 Z49),S49⟩) (c49 : codeIn K Y49 "_law_pair" = true) (k49 : keepIn K (.ref f49) = true)
  (a50 : nsIn K mainGlobals "_law_pen" = some (some (.ref f50))) (l50 : K.lookup f50 = some ⟨O50,R50,.func (FnAt "_law_pen" s__law_pen V50 U50 W50 N50 Y50 Z50),S50⟩) (c50 : codeIn K Y50 "_law_pen" = true) (k50 : keepIn K (.ref f50) = true)
  (a51 : nsIn K mainGlobals "law" = some (some (.ref f51))) (l51 : K.lookup f51 = some ⟨O51,R51,.func (FnAt "law" s_law V51 U51 W51 N51 Y51 Z51),S51⟩) (c51 : codeIn K Y51 "law" = true) (k51 : keepIn K (.ref f51) = true)
  (z0 : nsIn K mainGlobals "ValueError" = some none)
  (z1 : nsIn K mainGlobals "all" = some none)
  (z2 : nsIn K mainGlobals "bool" = some none)
  (z3 : nsIn K mainGlobals "divmod" = some none)
  (z4 : nsIn K mainGlobals "enumerate" = some none)
  (z5 : nsIn K mainGlobals "int" = some none)
  (z6 : nsIn K mainGlobals "isinstance" = some none)
  (z7 : nsIn K mainGlobals "len" = some none)
  (z8 : nsIn K mainGlobals "list" = some none)
  (z9 : nsIn K mainGlobals "max" = some none)
  (z10 : nsIn K mainGlobals "min" = some none)
  (z11 : nsIn K mainGlobals "range" = some none)
  (z12 : nsIn K mainGlobals "reversed" = some none)
  (z13 : nsIn K mainGlobals "sum" = some none)
  (z14 : nsIn K mainGlobals "tuple" = some none)
  (z15 : nsIn K mainGlobals "zip" = some none)
  {t0 : Tok} (q0 : nsIn K mainGlobals "MOST_BOILERS" = some (some (.int 4 t0)))
  {t1 : Tok} (q1 : nsIn K mainGlobals "MOST_ENGINES" = some (some (.int 4 t1)))
  {t2 : Tok} (q2 : nsIn K mainGlobals "MOST_FAULTS" = some (some (.int 4 t2)))
  {t3 : Tok} (q3 : nsIn K mainGlobals "MOST_HOURS" = some (some (.int 8 t3)))
  {t4 : Tok} (q4 : nsIn K mainGlobals "MOST_UNITS" = some (some (.int 9 t4)))
  {t5 : Tok} (q5 : nsIn K mainGlobals "MOST_EXTRA" = some (some (.int 20 t5)))
  {t6 : Tok} (q6 : nsIn K mainGlobals "MOST_IN_MAIN" = some (some (.int 40 t6)))
  {M d0 d1 d2 d3 d4 d5 d6 d7 d8 d9 d10 d11 d12 d13 d14 d15 d16 d17 d18 : Addr}
  (y0 : nsIn K mainGlobals "NoPlant" = some (some (.ref d0)))
  (y1 : nsIn K mainGlobals "NoStory" = some (some (.ref d1)))
  (y2 : nsIn K mainGlobals "NoFiring" = some (some (.ref d2)))
  (y3 : nsIn K mainGlobals "NoHour" = some (some (.ref d3)))
  (y4 : nsIn K mainGlobals "NoBoiler" = some (some (.ref d4)))
  (y5 : nsIn K mainGlobals "NoPrices" = some (some (.ref d5)))
  (y6 : nsIn K mainGlobals "NoWay" = some (some (.ref d6)))
  (y7 : nsIn K mainGlobals "NoSet" = some (some (.ref d7)))
  (y8 : nsIn K mainGlobals "NoTanks" = some (some (.ref d8)))
  (y9 : nsIn K mainGlobals "NoPump" = some (some (.ref d9)))
  (y10 : nsIn K mainGlobals "NoFeeding" = some (some (.ref d10)))
  (y11 : nsIn K mainGlobals "NoReadings" = some (some (.ref d11)))
  (y12 : nsIn K mainGlobals "NoStart" = some (some (.ref d12)))
  (y13 : nsIn K mainGlobals "NoShifts" = some (some (.ref d13)))
  (y14 : nsIn K mainGlobals "NoBook" = some (some (.ref d14)))
  (y15 : nsIn K mainGlobals "NoAmount" = some (some (.ref d15)))
  (y16 : nsIn K mainGlobals "NoDeed" = some (some (.ref d16)))
  (y17 : nsIn K mainGlobals "NoLine" = some (some (.ref d17)))
  (y18 : nsIn K mainGlobals "NoText" = some (some (.ref d18)))
  (yM : nsIn K mainGlobals "MainError" = some (some (.ref M))) (yB : mroIn K M (.type "BaseException") = some true) (yT : typeIn K (.ref M) = some (.type "type"))
  (x0 : excIn K d0 CG "ValueError.__new__" = true) (w0 : BZ K M [d0,d1,d2,d3,d4,d5,d6,d7,d8,d9,d10,d11,d12,d13,d14,d15,d16,d17,d18] 0 = true)
  (x1 : excIn K d1 CG "ValueError.__new__" = true) (w1 : BZ K M [d0,d1,d2,d3,d4,d5,d6,d7,d8,d9,d10,d11,d12,d13,d14,d15,d16,d17,d18] 1 = true)
  (x3 : excIn K d3 CG "ValueError.__new__" = true) (w3 : BZ K M [d0,d1,d2,d3,d4,d5,d6,d7,d8,d9,d10,d11,d12,d13,d14,d15,d16,d17,d18] 3 = true)
  (x4 : excIn K d4 CG "ValueError.__new__" = true) (w4 : BZ K M [d0,d1,d2,d3,d4,d5,d6,d7,d8,d9,d10,d11,d12,d13,d14,d15,d16,d17,d18] 4 = true)
  (x6 : excIn K d6 CG "ValueError.__new__" = true) (w6 : BZ K M [d0,d1,d2,d3,d4,d5,d6,d7,d8,d9,d10,d11,d12,d13,d14,d15,d16,d17,d18] 6 = true)
  : ∃ fd : FuncData,(∀ (s : Shared) (v : Value),BindsTo s fd ⟨[v],[]⟩ [("_law_script",v)]) /\ ∀ base : Heap,K.In base -> base.Ns mainGlobals mg -> CodeHd base c TB -> base.BuiltinsAt mg TB -> Cw l.prog w K mg base CX0 15 fa fd ["_law_script"] (sp_law K TB) := by
 have e := hfa.symm.trans (PySem.W.mg_of X G a51)
 cases e
 have T : Tx mg := ⟨mg_none_of X G z0,mg_none_of X G z1,mg_none_of X G z2,mg_none_of X G z3,mg_none_of X G z4,mg_none_of X G z5,mg_none_of X G z6,mg_none_of X G z7,mg_none_of X G z8,mg_none_of X G z9,mg_none_of X G z10,mg_none_of X G z11,mg_none_of X G z12,mg_none_of X G z13,mg_none_of X G z14,mg_none_of X G z15,⟨_,mg_of X G q0⟩,⟨_,mg_of X G q1⟩,⟨_,mg_of X G q2⟩,⟨_,mg_of X G q3⟩,⟨_,mg_of X G q4⟩,⟨_,mg_of X G q5⟩,⟨_,mg_of X G q6⟩⟩
 have C : Tc K mg M [d0,d1,d2,d3,d4,d5,d6,d7,d8,d9,d10,d11,d12,d13,d14,d15,d16,d17,d18] := ⟨mg_of X G y0,mg_of X G y1,mg_of X G y2,mg_of X G y3,mg_of X G y4,mg_of X G y5,mg_of X G y6,mg_of X G y7,mg_of X G y8,mg_of X G y9,mg_of X G y10,mg_of X G y11,mg_of X G y12,mg_of X G y13,mg_of X G y14,mg_of X G y15,mg_of X G y16,mg_of X G y17,mg_of X G y18,mg_of X G yM,yB,yT,y0,x0,w0,y1,x1,w1,y3,x3,w3,y4,x4,w4,y6,x6,w6⟩
 have ec : Y43 = .ref c := RP a43 l43 ht
 subst ec
 have F0 : Df K mg "_law_caps" s__law_caps ["_law_plant_here","_law_story_here"] := AG X G a0 l0 c0 k0 fun _ _ _ _ _ _ us hl => match us,hl with | [_,_],_ => rfl
 have F1 : Df K mg "_law_cell" s__law_cell ["_law_script","_law_k"] := AG X G a1 l1 c1 k1 fun _ _ _ _ _ _ us hl => match us,hl with | [_,_],_ => rfl
 have F2 : Df K mg "_law_draw" s__law_draw ["_law_pen_here","_law_many"] := AG X G a2 l2 c2 k2 fun _ _ _ _ _ _ us hl => match us,hl with | [_,_],_ => rfl
 have F3 : Df K mg "_law_dry" s__law_dry ["_law_plant_here","_law_story_here"] := AG X G a3 l3 c3 k3 fun _ _ _ _ _ _ us hl => match us,hl with | [_,_],_ => rfl
 have F4 : Df K mg "_law_which" s__law_which ["_law_e"] := AG X G a4 l4 c4 k4 fun _ _ _ _ _ _ us hl => match us,hl with | [_],_ => rfl
 have F5 : Df K mg "_law_said" s__law_said ["_law_call"] := AG X G a5 l5 c5 k5 fun _ _ _ _ _ _ us hl => match us,hl with | [_],_ => rfl
 have F6 : Df K mg "replaced" s_replaced ["row","at","part"] := AG X G a6 l6 c6 k6 fun _ _ _ _ _ _ us hl => match us,hl with | [_,_,_],_ => rfl
 have F7 : Df K mg "added" s_added ["row","at","units"] := AG X G a7 l7 c7 k7 fun _ _ _ _ _ _ us hl => match us,hl with | [_,_,_],_ => rfl
 have F8 : Df K mg "floor_at" s_floor_at ["terms","hour","price","behind"] := AG X G a8 l8 c8 k8 fun _ _ _ _ _ _ us hl => match us,hl with | [_,_,_,_],_ => rfl
 have F9 : Df K mg "tails_from" s_tails_from ["terms","hour","tails"] := AG X G a9 l9 c9 k9 fun _ _ _ _ _ _ us hl => match us,hl with | [_,_,_],_ => rfl
 have F10 : Df K mg "highest_floor" s_highest_floor ["terms"] := AG X G a10 l10 c10 k10 fun _ _ _ _ _ _ us hl => match us,hl with | [_],_ => rfl
 have F11 : Df K mg "is_too_much" s_is_too_much ["terms","stretch"] := AG X G a11 l11 c11 k11 fun _ _ _ _ _ _ us hl => match us,hl with | [_,_],_ => rfl
 have F12 : Df K mg "least_stretch" s_least_stretch ["terms"] := AG X G a12 l12 c12 k12 fun _ _ _ _ _ _ us hl => match us,hl with | [_],_ => rfl
 have F13 : Df K mg "coal_under" s_coal_under ["terms"] := AG X G a13 l13 c13 k13 fun _ _ _ _ _ _ us hl => match us,hl with | [_],_ => rfl
 have F14 : Df K mg "coal_or_refuse" s_coal_or_refuse ["terms"] := AG X G a14 l14 c14 k14 fun _ _ _ _ _ _ us hl => match us,hl with | [_],_ => rfl
 have F15 : Df K mg "is_whole" s_is_whole ["thing"] := AG X G a15 l15 c15 k15 fun _ _ _ _ _ _ us hl => match us,hl with | [_],_ => rfl
 have F16 : Df K mg "is_whole_from" s_is_whole_from ["thing","least","most"] := AG X G a16 l16 c16 k16 fun _ _ _ _ _ _ us hl => match us,hl with | [_,_,_],_ => rfl
 have F17 : Df K mg "need_boiler" s_need_boiler ["plant","boiler"] := AG X G a17 l17 c17 k17 fun _ _ _ _ _ _ us hl => match us,hl with | [_,_],_ => rfl
 have F18 : Df K mg "need_hour" s_need_hour ["story","hour"] := AG X G a18 l18 c18 k18 fun _ _ _ _ _ _ us hl => match us,hl with | [_,_],_ => rfl
 have F19 : Df K mg "cap_under" s_cap_under ["words","make"] := AG X G a19 l19 c19 k19 fun _ _ _ _ _ _ us hl => match us,hl with | [_,_],_ => rfl
 have F20 : Df K mg "words_for" s_words_for ["faults","boiler","hour"] := AG X G a20 l20 c20 k20 fun _ _ _ _ _ _ us hl => match us,hl with | [_,_,_],_ => rfl
 have F21 : Df K mg "caps_in" s_caps_in ["boilers","faults","hour"] := AG X G a21 l21 c21 k21 fun _ _ _ _ _ _ us hl => match us,hl with | [_,_,_],_ => rfl
 have F22 : Df K mg "is_tuple_of" s_is_tuple_of ["thing","fewest","most"] := AG X G a22 l22 c22 k22 fun _ _ _ _ _ _ us hl => match us,hl with | [_,_,_],_ => rfl
 have F23 : Df K mg "is_fault" s_is_fault ["thing","boilers","hours"] := AG X G a23 l23 c23 k23 fun _ _ _ _ _ _ us hl => match us,hl with | [_,_,_],_ => rfl
 have F24 : Df K mg "is_make_and_coal" s_is_make_and_coal ["thing"] := AG X G a24 l24 c24 k24 fun _ _ _ _ _ _ us hl => match us,hl with | [_],_ => rfl
 have F25 : Df K mg "are_boilers" s_are_boilers ["thing"] := AG X G a25 l25 c25 k25 fun _ _ _ _ _ _ us hl => match us,hl with | [_],_ => rfl
 have F26 : Df K mg "is_engine" s_is_engine ["thing"] := AG X G a26 l26 c26 k26 fun _ _ _ _ _ _ us hl => match us,hl with | [_],_ => rfl
 have F27 : Df K mg "are_engines" s_are_engines ["thing"] := AG X G a27 l27 c27 k27 fun _ _ _ _ _ _ us hl => match us,hl with | [_],_ => rfl
 have F28 : Df K mg "is_main" s_is_main ["thing"] := AG X G a28 l28 c28 k28 fun _ _ _ _ _ _ us hl => match us,hl with | [_],_ => rfl
 have F29 : Df K mg "is_plant" s_is_plant ["thing"] := AG X G a29 l29 c29 k29 fun _ _ _ _ _ _ us hl => match us,hl with | [_],_ => rfl
 have F30 : Df K mg "need_plant" s_need_plant ["plant"] := AG X G a30 l30 c30 k30 fun _ _ _ _ _ _ us hl => match us,hl with | [_],_ => rfl
 have F31 : Df K mg "is_story" s_is_story ["plant","thing"] := AG X G a31 l31 c31 k31 fun _ _ _ _ _ _ us hl => match us,hl with | [_,_],_ => rfl
 have F32 : Df K mg "need_story" s_need_story ["plant","story"] := AG X G a32 l32 c32 k32 fun _ _ _ _ _ _ us hl => match us,hl with | [_,_],_ => rfl
 have F33 : Df K mg "caps_of" s_caps_of ["plant","story"] := AG X G a33 l33 c33 k33 fun _ _ _ _ _ _ us hl => match us,hl with | [_,_],_ => rfl
 have F34 : Df K mg "drawn_by" s_drawn_by ["engine","hour"] := AG X G a34 l34 c34 k34 fun _ _ _ _ _ _ us hl => match us,hl with | [_,_],_ => rfl
 have F35 : Df K mg "draws_of" s_draws_of ["plant","story"] := AG X G a35 l35 c35 k35 fun _ _ _ _ _ _ us hl => match us,hl with | [_,_],_ => rfl
 have F36 : Df K mg "terms_of" s_terms_of ["plant","story"] := AG X G a36 l36 c36 k36 fun _ _ _ _ _ _ us hl => match us,hl with | [_,_],_ => rfl
 have F37 : Df K mg "better" s_better ["plant","story","boiler","hour"] := AG X G a37 l37 c37 k37 fun _ _ _ _ _ _ us hl => match us,hl with | [_,_,_,_],_ => rfl
 have F38 : Df K mg "fuller" s_fuller ["plant","story"] := AG X G a38 l38 c38 k38 fun _ _ _ _ _ _ us hl => match us,hl with | [_,_],_ => rfl
 have F39 : Df K mg "less_drawn" s_less_drawn ["plant","story","hour"] := AG X G a39 l39 c39 k39 fun _ _ _ _ _ _ us hl => match us,hl with | [_,_,_],_ => rfl
 have F40 : Df K mg "lower" s_lower ["plant","story"] := AG X G a40 l40 c40 k40 fun _ _ _ _ _ _ us hl => match us,hl with | [_,_],_ => rfl
 have F41 : Df K mg "more_drawn" s_more_drawn ["plant","story","hour"] := AG X G a41 l41 c41 k41 fun _ _ _ _ _ _ us hl => match us,hl with | [_,_,_],_ => rfl
 have F42 : Df K mg "wider" s_wider ["plant","story"] := AG X G a42 l42 c42 k42 fun _ _ _ _ _ _ us hl => match us,hl with | [_,_],_ => rfl
 have F43 : ET K mg "_law_four" s__law_four ["_law_plant_here","_law_story_here","_law_boiler","_law_hour"] c := RO X G a43 l43 c43 k43 fun _ _ _ _ _ _ us hl => match us,hl with | [_,_,_,_],_ => rfl
 have F44 : Df K mg "_law_draws" s__law_draws ["_law_plant_here","_law_story_here"] := AG X G a44 l44 c44 k44 fun _ _ _ _ _ _ us hl => match us,hl with | [_,_],_ => rfl
 have F45 : Df K mg "_law_mains" s__law_mains ["_law_main","_law_draws_here","_law_firing"] := AG X G a45 l45 c45 k45 fun _ _ _ _ _ _ us hl => match us,hl with | [_,_,_],_ => rfl
 have F46 : Df K mg "_law_keeps" s__law_keeps ["_law_plant_here","_law_story_here","_law_firing"] := AG X G a46 l46 c46 k46 fun _ _ _ _ _ _ us hl => match us,hl with | [_,_,_],_ => rfl
 have F47 : Df K mg "_law_plant" s__law_plant ["_law_pen_here","_law_most"] := AG X G a47 l47 c47 k47 fun _ _ _ _ _ _ us hl => match us,hl with | [_,_],_ => rfl
 have F48 : Df K mg "_law_story" s__law_story ["_law_pen_here","_law_plant_here","_law_most"] := AG X G a48 l48 c48 k48 fun _ _ _ _ _ _ us hl => match us,hl with | [_,_,_],_ => rfl
 have F49 : Df K mg "_law_pair" s__law_pair ["_law_pen_here","_law_most","_law_hours"] := AG X G a49 l49 c49 k49 fun _ _ _ _ _ _ us hl => match us,hl with | [_,_,_],_ => rfl
 have F50 : Df K mg "_law_pen" s__law_pen ["_law_cell_here"] := AG X G a50 l50 c50 k50 fun _ _ _ _ _ _ us hl => match us,hl with | [_],_ => rfl
 have F51 := Fe (st := s_law) l51 c51 k51
 refine ⟨PySem.W.fnOf "law" "law" (Cz s_law) (Bv s_law) (Aq s_law) .none V51 U51 W51 N51 Y51 Z51,fun s v => .of_eq rfl,fun base _ _ hC hBu => ?_⟩
 have B__law_caps := Qy (P := l.prog) (w := w) (base := base) F0 T
 have B__law_cell := Qi (P := l.prog) (w := w) (base := base) F1 T
 have B__law_draw := Qk (P := l.prog) (w := w) (base := base) F2 T
 have B__law_dry := RA (P := l.prog) (w := w) (base := base) F3 T
 have B__law_which := QX (P := l.prog) (w := w) (base := base) F4 T C
 have B__law_said := QZ F5 C B__law_which
 have B_replaced := QK (P := l.prog) (w := w) (base := base) F6 T
 have B_added := QO F7 T B_replaced
 have B_floor_at := QC (P := l.prog) (w := w) (base := base) F8 T
 have B_tails_from := QD F9 T B_floor_at
 have B_highest_floor := QF F10 T B_tails_from
 have B_is_too_much := QH (P := l.prog) (w := w) (base := base) F11 T
 have B_least_stretch := QI F12 T B_is_too_much
 have B_coal_under := QL F13 T B_highest_floor B_least_stretch
 have BE_coal_or_refuse := Rl F14 T C B_coal_under
 have B_is_whole := PX (P := l.prog) (w := w) (base := base) F15 T
 have B_is_whole_from := PZ F16 T B_is_whole
 have BE_need_boiler := Rk F17 T C B_is_whole_from
 have BE_need_hour := Rj F18 T C B_is_whole_from
 have B_cap_under := Qq (P := l.prog) (w := w) (base := base) F19 T
 have B_words_for := Qs (P := l.prog) (w := w) (base := base) F20 T
 have B_caps_in := Qu F21 T B_cap_under B_words_for
 have B_is_tuple_of := P2 (P := l.prog) (w := w) (base := base) F22 T
 have BA_is_fault := Q1 F23 T B_is_tuple_of B_is_whole_from
 have B_is_make_and_coal := P9 F24 T B_is_tuple_of B_is_whole_from
 have B_are_boilers := Qd F25 T B_is_make_and_coal B_is_tuple_of
 have B_is_engine := Qa F26 T B_is_tuple_of B_is_whole_from
 have B_are_engines := Qf F27 T B_is_engine B_is_tuple_of
 have B_is_main := Qb F28 T B_is_tuple_of B_is_whole_from
 have B_is_plant := Qg F29 T B_are_boilers B_are_engines B_is_main B_is_tuple_of
 have BE_need_plant := Q2 F30 T C B_is_plant
 have BE_is_story := Q3 F31 T BA_is_fault B_is_tuple_of B_is_whole_from BE_need_plant
 have BE_need_story := Q7 F32 T C BE_is_story
 have BE_caps_of := Q8 F33 T B_caps_in BE_need_story
 have B_drawn_by := Qv (P := l.prog) (w := w) (base := base) F34 T
 have BE_draws_of := Q9 F35 T B_drawn_by BE_need_story
 have BE_terms_of := Ra F36 T BE_caps_of BE_draws_of
 have BE_better := Rs F37 T B_added B_coal_under B_replaced BE_coal_or_refuse BE_need_boiler BE_need_hour BE_terms_of
 have BE_fuller := Ro F38 T B_coal_under BE_coal_or_refuse BE_terms_of
 have BE_less_drawn := Rq F39 T B_added B_coal_under BE_coal_or_refuse BE_need_hour BE_terms_of
 have BE_lower := Rn F40 T B_coal_under BE_coal_or_refuse BE_terms_of
 have BE_more_drawn := Rp F41 T B_added B_coal_under BE_coal_or_refuse BE_need_hour BE_terms_of
 have BE_wider := Rm F42 T B_coal_under BE_coal_or_refuse BE_terms_of
 have B__law_four := RB F43 hC hBu T C B__law_said BE_wider BE_lower BE_fuller BE_more_drawn BE_less_drawn BE_better
 have B__law_draws := QS (P := l.prog) (w := w) (base := base) F44 T
 have B__law_mains := QT (P := l.prog) (w := w) (base := base) F45 T
 have B__law_keeps := QV F46 T B__law_draws B__law_mains
 have B__law_plant := Ql F47 T B__law_draw
 have B__law_story := Qx F48 T B__law_draw
 have B__law_pair := QW F49 T B__law_caps B__law_keeps B__law_plant B__law_story
 have B__law_pen := Qj (P := l.prog) (w := w) (base := base) F50 T
 exact RN F51 T B__law_caps B__law_cell B__law_draw B__law_dry B__law_four B__law_keeps B__law_pair B__law_pen
end MF
def PySem.W.Fast.tw3419424512991508878 : Nat := 0
def PySem.W.Fast.tw12498899209725618909 : Nat := 0
def PySem.W.Fast.tw16573642961724689632 : Nat := 0
def PySem.W.Fast.tw18253475350133013950 : Nat := 0
def PySem.W.Fast.tw474715217279616550 : Nat := 0
def PySem.W.Fast.tw2917367976272509566 : Nat := 0
def PySem.W.Fast.tw2100889837091727055 : Nat := 0
def PySem.W.Fast.tw11770069245837992786 : Nat := 0
def PySem.W.Fast.tw1946416832200645368 : Nat := 0
def PySem.W.Fast.tw12160929814645922712 : Nat := 0
def PySem.W.Fast.tw7012008326071684228 : Nat := 0
def PySem.W.Fast.tw9737211531102908314 : Nat := 0
def PySem.W.Fast.tw3837667798938389126 : Nat := 0
def PySem.W.Fast.tw1314601254663111894 : Nat := 0
def PySem.W.Fast.tw6614837538307564941 : Nat := 0
def PySem.W.Fast.tw11472045890973087970 : Nat := 0
def PySem.W.Fast.tw16709696107223328892 : Nat := 0
def PySem.W.Fast.tw2369255956235876095 : Nat := 0
def PySem.W.Fast.tw2074298711046490523 : Nat := 0
def PySem.W.Fast.tw5272392463996568631 : Nat := 0
def PySem.W.Fast.tw15986341062573845741 : Nat := 0
def PySem.W.Fast.tw2451437281059010307 : Nat := 0
def PySem.W.Fast.tw7722690163472415417 : Nat := 0
def PySem.W.Fast.tw7258018752765250948 : Nat := 0
def PySem.W.Fast.tw18377089107439987379 : Nat := 0
def PySem.W.Fast.tw14882050435267075830 : Nat := 0
def PySem.W.Fast.tw448188803812262928 : Nat := 0
def PySem.W.Fast.tw18016286651220549820 : Nat := 0
def PySem.W.Fast.tw12962761179862118623 : Nat := 0
def PySem.W.Fast.tw8831012230207157504 : Nat := 0
def PySem.W.Fast.tw183946051913362709 : Nat := 0
def PySem.W.Fast.tw8590343185725777445 : Nat := 0
def PySem.W.Fast.tw6829291523902911924 : Nat := 0
def PySem.W.Fast.tw12248434753756129839 : Nat := 0
def PySem.W.Fast.tw682955406671798948 : Nat := 0
def PySem.W.Fast.tw11676403210378188569 : Nat := 0
def PySem.W.Fast.tw15460347469081303194 : Nat := 0
def PySem.W.Fast.tw17129445613364459317 : Nat := 0
def PySem.W.Fast.tw3680324407909234471 : Nat := 0
def PySem.W.Fast.tw9461684373679086846 : Nat := 0
def PySem.W.Fast.tw8662492682101134083 : Nat := 0
def PySem.W.Fast.tw15857188298464458007 : Nat := 0
def PySem.W.Fast.tw3852103331435623806 : Nat := 0
def PySem.W.Fast.tw17433819379485133360 : Nat := 0
def PySem.W.Fast.tw939759814046660794 : Nat := 0
def PySem.W.Fast.tw12723938388984834238 : Nat := 0
def PySem.W.Fast.tw10809113382131839780 : Nat := 0
def PySem.W.Fast.tw12266189909429835476 : Nat := 0
def PySem.W.Fast.tw17275433204089564388 : Nat := 0
def PySem.W.Fast.tw1212401132988921764 : Nat := 0
def PySem.W.Fast.tw600448452787052333 : Nat := 0
def PySem.W.Fast.tw12839905938557231813 : Nat := 0
def PySem.W.Fast.tw1059162948498841293 : Nat := 0
def PySem.W.Fast.tw7995189176663472960 : Nat := 0
def PySem.W.Fast.tw17219921153942283681 : Nat := 0
def PySem.W.Fast.tw7073495601807045532 : Nat := 0
def PySem.W.Fast.tw18122199974759045113 : Nat := 0
def PySem.W.Fast.tw9354561813670654732 : Nat := 0
def PySem.W.Fast.tw10394970697437913865 : Nat := 0
def PySem.W.Fast.tw10787434868672604917 : Nat := 0
def PySem.W.Fast.tw13729830792014983045 : Nat := 0
def PySem.W.Fast.tw8195264194402432503 : Nat := 0
def PySem.W.Fast.tw14685457742541949124 : Nat := 0
def PySem.W.Fast.tw12128329181796946329 : Nat := 0
def PySem.W.Fast.tw17366437354753651110 : Nat := 0
def PySem.W.Fast.tw3399804985592747374 : Nat := 0
def PySem.W.Fast.tw13960421695277091325 : Nat := 0
def PySem.W.Fast.tw17409930410215591650 : Nat := 0
def PySem.W.Fast.tw9708613869512330149 : Nat := 0
def PySem.W.Fast.tw3465670625954109926 : Nat := 0
def PySem.W.Fast.tw8723334177188353109 : Nat := 0
def PySem.W.Fast.tw1111552181593009009 : Nat := 0
def PySem.W.Fast.tw1100526271091169106 : Nat := 0
def PySem.W.Fast.tw2024272012544154662 : Nat := 0
def PySem.W.Fast.tw11255088717004832733 : Nat := 0
def PySem.W.Fast.tw1310402859408111336 : Nat := 0
def PySem.W.Fast.tw9350559145028273132 : Nat := 0
def PySem.W.Fast.tw11848977226777434183 : Nat := 0
def PySem.W.Fast.tw1172306504198053227 : Nat := 0
def PySem.W.Fast.tw1272706282427899985 : Nat := 0
def PySem.W.Fast.tw1390160586265141582 : Nat := 0
def PySem.W.Fast.tw7010550649843995479 : Nat := 0
def PySem.W.Fast.tw15608525739259028355 : Nat := 0
def PySem.W.Fast.tw10835897323568236293 : Nat := 0
def PySem.W.Fast.tw5637810726710116653 : Nat := 0
def PySem.W.Fast.tw14303421814619265261 : Nat := 0
def PySem.W.Fast.tw384962874061987123 : Nat := 0
def PySem.W.Fast.tw3312617727451505754 : Nat := 0
def PySem.W.Fast.tw11015886893677580868 : Nat := 0
def PySem.W.Fast.tw5599713473582119513 : Nat := 0
def PySem.W.Fast.tw7081555868224846692 : Nat := 0
def PySem.W.Fast.tw9328579178198387681 : Nat := 0
def PySem.W.Fast.tw6253616868685432528 : Nat := 0
def PySem.W.Fast.tw11976772667415772904 : Nat := 0
def PySem.W.Fast.tw938318186648334633 : Nat := 0
def PySem.W.Fast.tw9453170623028706751 : Nat := 0
def PySem.W.Fast.tw8445647828501660168 : Nat := 0
def PySem.W.Fast.tw2904221710134977029 : Nat := 0
def PySem.W.Fast.tw5901078322978889688 : Nat := 0
def PySem.W.Fast.tw10108816678857370506 : Nat := 0
def PySem.W.Fast.tw16725767278456950238 : Nat := 0
def PySem.W.Fast.tw7526919371887960633 : Nat := 0
def PySem.W.Fast.tw11432352566295450320 : Nat := 0
def PySem.W.Fast.tw14646559507447952307 : Nat := 0
def PySem.W.Fast.tw13791892977733364328 : Nat := 0
def PySem.W.Fast.tw13908356730377819848 : Nat := 0
def PySem.W.Fast.tw7443586238984425171 : Nat := 0
def PySem.W.Fast.tw15165920915269411972 : Nat := 0
def PySem.W.Fast.tw463416382967429389 : Nat := 0
def PySem.W.Fast.tw7811899126324126323 : Nat := 0
def PySem.W.Fast.tw7803579107017844663 : Nat := 0
def PySem.W.Fast.tw2164600008038395371 : Nat := 0
def PySem.W.Fast.tw7304386795753164503 : Nat := 0
def PySem.W.Fast.tw12267143162414783097 : Nat := 0
def PySem.W.Fast.tw13187348575420288766 : Nat := 0
def PySem.W.Fast.tw11131710869695790034 : Nat := 0
def PySem.W.Fast.tw7021272942903889577 : Nat := 0
def PySem.W.Fast.tw9638445325084544373 : Nat := 0
def PySem.W.Fast.tw3007849609642748520 : Nat := 0
def PySem.W.Fast.tw7752032888043359742 : Nat := 0
def PySem.W.Fast.tw16863384454503407671 : Nat := 0
def PySem.W.Fast.tw4924555941866200961 : Nat := 0
def PySem.W.Fast.tw5058892437921065032 : Nat := 0
def PySem.W.Fast.tw17182992323033191468 : Nat := 0
def PySem.W.Fast.tw8722477550007089352 : Nat := 0
def PySem.W.Fast.tw8153701085922115108 : Nat := 0
def PySem.W.Fast.tw5876741041912626520 : Nat := 0
def PySem.W.Fast.tw8282742555096529053 : Nat := 0
def PySem.W.Fast.tw8896922276627128685 : Nat := 0
def PySem.W.Fast.tw8983685035852133781 : Nat := 0
def PySem.W.Fast.tw7484959260403033534 : Nat := 0
def PySem.W.Fast.tw7356629974992060401 : Nat := 0
def PySem.W.Fast.tw5115164670391956217 : Nat := 0
def PySem.W.Fast.tw1666657824958577848 : Nat := 0
def PySem.W.Fast.tw14635540430526741010 : Nat := 0
def PySem.W.Fast.tw11731997554827826364 : Nat := 0
def PySem.W.Fast.tw5554044184209146623 : Nat := 0
def PySem.W.Fast.tw7493577293138521557 : Nat := 0
def PySem.W.Fast.tw1081595996917082817 : Nat := 0
def PySem.W.Fast.tw508932536770453358 : Nat := 0
def PySem.W.Fast.tw4990104644661261646 : Nat := 0
def PySem.W.Fast.tw10123812911321584309 : Nat := 0
def PySem.W.Fast.tw10590054687987364245 : Nat := 0
def PySem.W.Fast.tw9279129857558145862 : Nat := 0
def PySem.W.Fast.tw836233175353805751 : Nat := 0
def PySem.W.Fast.tw16369037679946929424 : Nat := 0
def PySem.W.Fast.tw16925488778520193923 : Nat := 0
def PySem.W.Fast.tw17546492504300211107 : Nat := 0
def PySem.W.Fast.tw1423666844493428396 : Nat := 0
def PySem.W.Fast.tw4389058160688776281 : Nat := 0
def PySem.W.Fast.tw16405856777824530871 : Nat := 0
def PySem.W.Fast.tw1600779746690233605 : Nat := 0
def PySem.W.Fast.tw13220604151944596591 : Nat := 0
def PySem.W.Fast.tw6357506450166525865 : Nat := 0
def PySem.W.Fast.tw6070904724052389778 : Nat := 0
def PySem.W.Fast.tw1429706249198871212 : Nat := 0
def PySem.W.Fast.tw2880704121449003003 : Nat := 0
open PySem PySem.W PyProof.Rows
set_option maxRecDepth 100000 in
set_option maxHeartbeats 0 in
theorem PySem.Challenge.cw_mainfires_k53_units_where_nothing_keeps_holds : PySem.Challenge.rw_mainfires_k53_units_where_nothing_keeps.Holds := by
 w_on; o_law; k_head; (case hw => w_witness2)
 k_fill
 refine L2.walk_ofT (l := PySem.Challenge.rw_mainfires_k53_units_where_nothing_keeps) (n := 63) (k := 15) (x := "_law_script") (xT := "_law_four") (CX := fun _ => L2.CX0) (sp := MF.sp_law) rfl (by decide) rfl ⟨rfl, by decide, by decide, rfl⟩ (fun w h Y => PySem.W.km_in_of Y) rfl (fun w => by kernel_rfl) (fun w => by kernel_rfl) ?F (fun _ _ a _ ns hl hT hS => ⟨ns, hS, hl, hT, fun _ => rfl⟩) (fun _ _ _ _ _ z => z)
 case F =>
  intro w mg fa h c TB KX G hmg ht
  refine' MF.all_mk KX G hmg ht ?_ ?_ ?_ ?_ ?_ ?_ ?_ ?_ ?_ ?_ ?_ ?_ ?_ ?_ ?_ ?_ ?_ ?_ ?_ ?_ ?_ ?_ ?_ ?_ ?_ ?_ ?_ ?_ ?_ ?_ ?_ ?_ ?_ ?_ ?_ ?_ ?_ ?_ ?_ ?_ ?_ ?_ ?_ ?_ ?_ ?_ ?_ ?_ ?_ ?_ ?_ ?_ ?_ ?_ ?_ ?_ ?_ ?_ ?_ ?_ ?_ ?_ ?_ ?_ ?_ ?_ ?_ ?_ ?_ ?_ ?_ ?_ ?_ ?_ ?_ ?_ ?_ ?_ ?_ ?_ ?_ ?_ ?_ ?_ ?_ ?_ ?_ ?_ ?_ ?_ ?_ ?_ ?_ ?_ ?_ ?_ ?_ ?_ ?_ ?_ ?_ ?_ ?_ ?_ ?_ ?_ ?_ ?_ ?_ ?_ ?_ ?_ ?_ ?_ ?_ ?_ ?_ ?_ ?_ ?_ ?_ ?_ ?_ ?_ ?_ ?_ ?_ ?_ ?_ ?_ ?_ ?_ ?_ ?_ ?_ ?_ ?_ ?_ ?_ ?_ ?_ ?_ ?_ ?_ ?_ ?_ ?_ ?_ ?_ ?_ ?_ ?_ ?_ ?_ ?_ ?_ ?_ ?_ ?_ ?_ ?_ ?_ ?_ ?_ ?_ ?_ ?_ ?_ ?_ ?_ ?_ ?_ ?_ ?_ ?_ ?_ ?_ ?_ ?_ ?_ ?_ ?_ ?_ ?_ ?_ ?_ ?_ ?_ ?_ ?_ ?_ ?_ ?_ ?_ ?_ ?_ ?_ ?_ ?_ ?_ ?_ ?_ ?_ ?_ ?_ ?_ ?_ ?_ ?_ ?_ ?_ ?_ ?_ ?_ ?_ ?_ ?_ ?_ ?_ ?_ ?_ ?_ ?_ ?_ ?_ ?_ ?_ ?_ ?_ ?_ ?_ ?_ ?_ ?_ ?_ ?_ ?_ ?_ ?_ ?_ ?_ ?_ ?_ ?_ ?_ ?_ ?_ ?_ ?_ ?_ ?_ ?_ ?_ ?_ ?_ ?_ ?_ ?_ ?_ ?_ ?_ ?_ ?_
  any_goals k_is
  any_goals k_exc
  all_goals kernel_rfl
end
