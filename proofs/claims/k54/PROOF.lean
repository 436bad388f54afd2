import PyProof.Rows.All
import Wide.All
import OpenK.AllK
import Wide.FinOn
import Lean
import PyProof.EqAt
import PyProof.EqKinds
import PyProof.TupleCall
import PyProof.Draws
import PyProof.ZipIter
import PyProof.EnumMake
import PyProof.IsiPairs
import PyProof.IsiHeapPairs
import PyProof.IsiNone
import PyProof.ReprRoads
import PyProof.ConsumeWalk
import PyProof.NeKinds
import PyProof.Rows.SeqMore
import PyProof.Rows.SortWalk
import PyProof.Rows.StrJoinMade
import PyProof.P3Eq
import PyProof.ListRange
import PyProof.CollectIter
import KE.KTryDeep
import PyProof.ExcBaseAll.ValueError
import PyProof.ExcArgsOwn
import PyProof.ExcAttrAll.ValueError
import KE.KLam
import PyProof.DictItemsLoops
import PyProof.DictCompW
import KE.KRevIter
import PyProof.MinMaxWalk
import PyProof.Rows.RowHeap
import PyProof.MaxThree
import PyProof.Rows.CallKwBuiltin
import PySem.Challenge.RW_mainfires_k54_whole_prices_and_units
set_option Elab.async false
set_option linter.all false
set_option maxRecDepth 100000
set_option maxHeartbeats 4000000
section
namespace L2
open PySem PySem.Spec PyProof.Rows
abbrev AO := Sum Int Str
def Dz : AO -> Value -> Bool
 | .inl k,v => Value.isInt k v
 | .inr x,v => Value.isStrOf x v
def Lh (w : World) : AO -> Int
 | .inl k => hashInt k
 | .inr x => hashStr w x
theorem CB : ∀ {k : AO} {v : Value},Dz k v = true -> (∃ i t,k = Sum.inl i /\ v = Value.int i t) \/ (∃ x t,k = Sum.inr x /\ v = Value.str x t)
 | .inl i,v,h => by
  obtain ⟨t,e⟩ := Value.isInt_shape (k := i) (v := v) h
  exact .inl ⟨i,t,rfl,e⟩
 | .inr x,v,h => by
  obtain ⟨t,e⟩ := Value.isStrOf_shape (x := x) (v := v) h
  exact .inr ⟨x,t,rfl,e⟩
theorem Li (i : Int) (t : Tok) : Dz (.inl i) (.int i t) = true := by simp [Dz,Value.isInt]
theorem Lj (x : Str) (t : Tok) : Dz (.inr x) (.str x t) = true := by simp [Dz,Value.isStrOf]
theorem Lk (a b : Int) : decide ((Sum.inl a : AO) = Sum.inl b) = (a == b) := by
 by_cases e : a = b
 ·subst e; simp
 ·have h : ¬ (Sum.inl a : AO) = Sum.inl b := fun q => e (Sum.inl.inj q)
  rw [decide_eq_false h]
  exact (beq_eq_false_iff_ne.mpr e).symm
theorem Ll (a b : Str) : decide ((Sum.inr a : AO) = Sum.inr b) = decide (a = b) := by
 by_cases e : a = b
 ·subst e; simp
 ·have h : ¬ (Sum.inr a : AO) = Sum.inr b := fun q => e (Sum.inr.inj q)
  rw [decide_eq_false h,decide_eq_false e]
theorem Lm (a : Int) (b : Str) : decide ((Sum.inl a : AO) = Sum.inr b) = false := decide_eq_false (fun q => nomatch q)
theorem Ln (a : Str) (b : Int) : decide ((Sum.inr a : AO) = Sum.inl b) = false := decide_eq_false (fun q => nomatch q)
def Bn (prog : Program) (w : World) : PySem.KeyKind prog w AO where
 is := Dz
 hash := Lh w
 inj := fun v a b ha hb => by
  rcases CB ha with ⟨i,t,rfl,rfl⟩ | ⟨x,t,rfl,rfl⟩
  ·rcases CB hb with ⟨j,u,rfl,e⟩ | ⟨y,u,rfl,e⟩
   ·injection e with e1 _; rw [e1]
   ·exact nomatch e
  ·rcases CB hb with ⟨j,u,rfl,e⟩ | ⟨y,u,rfl,e⟩
   ·exact nomatch e
   ·injection e with e1 _; rw [e1]
 byValue := fun k v h => by
  rcases CB h with ⟨i,t,rfl,rfl⟩ | ⟨x,t,rfl,rfl⟩ <;> rfl
 pyHash := fun hv h => by
  rcases CB hv with ⟨i,t,rfl,rfl⟩ | ⟨x,t,rfl,rfl⟩
  ·exact wpAny_pyHash_int h
  ·exact wpAny_pyHash_str h
 eqBool := fun hu hv h => by
  rcases CB hu with ⟨i,t,rfl,rfl⟩ | ⟨x,t,rfl,rfl⟩
  ·rcases CB hv with ⟨j,u,rfl,rfl⟩ | ⟨y,u,rfl,rfl⟩
   ·rw [Lk] at h; exact wpAny_eqBool_int h
   ·rw [Lm] at h; exact SeqAt.EqAt.int_str i t y u _ _ _ _ h
  ·rcases CB hv with ⟨j,u,rfl,rfl⟩ | ⟨y,u,rfl,rfl⟩
   ·rw [Ln] at h; exact SeqAt.EqAt.str_int x t j u _ _ _ _ h
   ·rw [Ll] at h; exact wpAny_eqBool_str h
 «strs» := fun k x t v h => by
  rcases CB h with ⟨i,u,rfl,e⟩ | ⟨y,u,rfl,e⟩
  ·exact nomatch e
  ·injection e with e1 _
   subst e1
   cases v <;> rfl
theorem Lo (prog : Program) (w : World) (k : AO) (v : Value) : (Bn prog w).is k v = Dz k v := rfl
theorem Ip (prog : Program) (w : World) (i : Int) (t : Tok) : (Bn prog w).is (.inl i) (.int i t) = true := Li i t
theorem Lp (prog : Program) (w : World) (x : Str) (t : Tok) : (Bn prog w).is (.inr x) (.str x t) = true := Lj x t
end L2
namespace L2
open PySem PySem.Spec PyProof.Rows
inductive V where
 | non | bl (b : Bool) | int (i : Int) | str (x : Str) | byt (b : Array UInt8) | flt (b : UInt64) | ref (a : Addr) | ty (n : String)
 deriving DecidableEq
def AA : V -> Value -> Prop
 | .non,u => u = Value.none
 | .bl b,u => u = Value.bool b
 | .int i,u => ∃ t,u = Value.int i t
 | .str x,u => ∃ t,u = Value.str x t
 | .byt b,u => ∃ t,u = Value.bytes b t
 | .flt b,u => ∃ t,u = Value.float b t
 | .ref a,u => u = Value.ref a
 | .ty n,u => u = Value.type n
abbrev At : List V -> List Value -> Prop := Paired AA
theorem At.length {xs : List V} {us : List Value} (r : At xs us) : xs.length = us.length := Paired.length r
theorem At.get : ∀ {xs : List V} {us : List Value} {i : Nat} {x : V},At xs us -> xs[i]? = some x -> ∃ u,us[i]? = some u /\ AA x u
 | _,_,_,_,.nil,e => by simp at e
 | _,_,0,_,.cons r _,e => by simp at e; subst e; exact ⟨_,rfl,r⟩
 | _,_,i + 1,x,.cons _ t,e => by
  obtain ⟨u,h1,h2⟩ := At.get (i := i) (x := x) t (by simpa using e)
  exact ⟨u,by simpa using h1,h2⟩
theorem At.set {x : V} {u : Value} (r : AA x u) : ∀ {xs : List V} {us : List Value} (i : Nat),At xs us -> At (xs.set i x) (us.set i u)
 | _,_,_,.nil => .nil
 | _,_,0,.cons _ t => .cons r t
 | _,_,i + 1,.cons q t => .cons q (At.set r i t)
theorem At.append : ∀ {xs ys : List V} {us ws : List Value},At xs us -> At ys ws -> At (xs ++ ys) (us ++ ws)
 | _,_,_,_,.nil,s => s
 | _,_,_,_,.cons r t,s => .cons r (At.append t s)
theorem At.take : ∀ {xs : List V} {us : List Value} (n : Nat),At xs us -> At (xs.take n) (us.take n)
 | _,_,0,_ => .nil
 | _,_,_ + 1,.nil => .nil
 | _,_,n + 1,.cons r t => .cons r (At.take n t)
theorem At.drop : ∀ {xs : List V} {us : List Value} (n : Nat),At xs us -> At (xs.drop n) (us.drop n)
 | _,_,0,r => r
 | _,_,_ + 1,.nil => .nil
 | _,_,n + 1,.cons _ t => At.drop n t
def Iq : Option V -> Option Value -> Prop
 | some v,some u => AA v u
 | none,none => True
 | _,_ => False
def KV {κ : Type} : List (κ × V) -> List (κ × Value) -> Prop := Paired fun (p : κ × V) (q : κ × Value) => p.1 = q.1 /\ AA p.2 q.2
def kV : AO -> V
 | .inl i => .int i
 | .inr x => .str x
inductive HO where
  | lst (xs : List V)
  | tup (xs : List V)
  | dK (kvs : List (AO × V)) | dT (kvs : List (List AO × V))
  | set (S : Int -> Bool) (n : Nat)
  | ins (C dx : Addr) (fs : List (Str × V))
  | own (x : Addr)
  | xd (fs : List (Str × V))
  | met (f x : Addr)
  | rng (lo hi : Int)
  | frz (o : Obj) (u : HO)
  | tbl (ps : Array Value)
  | ext (φ : Heap -> Prop)
abbrev Hp := Addr -> Option HO
def upd (H : Hp) (a : Addr) (o : HO) : Hp := fun b => if b = a then some o else H b
theorem Ak {H : Hp} {a : Addr} {o : HO} : upd H a o a = some o := by unfold upd; rw [if_pos rfl]
theorem Au {H : Hp} {a b : Addr} {o : HO} (h : b ≠ a) : upd H a o b = H b := by unfold upd; rw [if_neg h]
theorem Lq {H : Hp} {a b : Addr} {o u : HO} (h : H a = some o) (h' : H b = some u) (d : o ≠ u) : a ≠ b := by
 intro e; subst e; rw [h] at h'; exact d (Option.some.inj h')
theorem A6 {H : Hp} {a b : Addr} {o : HO} (h : H a = some o) (h' : H b = none) : a ≠ b := by
 intro e; subst e; rw [h] at h'; cases h'
section
variable (P : Program) (w : World)
def ObjOk (H : Hp) (h : Heap) (a : Addr) : HO -> Prop
 | .lst xs => xs.length <= sizeLine /\ ∃ (its : List Value) (n : Nat),At xs its /\ h.get? a = some { cls := .type "list",data := .seq its.toArray n }
 | .tup xs => xs.length <= sizeLine /\ ∃ its : List Value,At xs its /\ IsTup h a its.toArray
 | .dK kvs => kvs.length <= sizeLine /\ (a == sysModules) = false /\ ∃ vs,KV kvs vs /\ h.DictOf (Bn P w) a vs
 | .dT kvs => kvs.length <= sizeLine /\ (a == sysModules) = false /\ ∃ xs : List (List AO × Addr × Value),
   Paired (fun (p : List AO × V) (q : List AO × Addr × Value) => p.1 = q.1 /\ H q.2.1 = some (.tup (p.1.map kV)) /\ AA p.2 q.2.2) kvs xs /\
   ∃ o es ep,h.get? a = some o /\ o.ExactDict /\ o.data = .dict es ep /\ es.toList = xs.map (entryOfKey (tupleKind (Bn P w))) /\ (xs.map (·.1)).Nodup
 | .set S n => h.SetOf (intKind P w) a S n
 | .ins C dx fs => H dx = some (.own a) /\ fs.length <= 1000 /\ dx ≠ a /\ h.get? a = some (PySem.W.instObj C dx) /\
   ∃ mA,h.Ns1 dx mA /\ (∀ f,Iq (fs.lookup f) (mA f)) /\ PySem.Within mA (fs.map (·.1))
 | .own _ => ∃ o,h.get? a = some o
 | .xd fs => ∃ mA,h.Ns1 a mA /\ ∀ f,Iq (fs.lookup f) (mA f)
 | .rng lo hi => ∃ t u v,h.get? a = some { cls := .type "range",data := .fields #[.int lo t,.int hi u,.int 1 v] }
 | .frz o u => h.get? a = some o /\ ObjOk H h a u
 | .tbl ps => h.get? a = some { cls := .none,data := .fields ps }
 | .met f x => h.get? a = some (PySem.W.methodObj (.ref f) (.ref x))
 | .ext φ => φ h /\ (∃ o,h.get? a = some o) /\ ∀ h1 h2 : Heap,φ h1 -> (∀ o,h1.get? a = some o -> h2.get? a = some o) -> φ h2
def HOk (H : Hp) (h : Heap) : Prop := ∀ a o,H a = some o -> ObjOk P w H h a o
end
section
variable {P : Program} {w : World} {H H' : Hp} {h h' : Heap} {a : Addr} {o : HO}
theorem ObjOk.lt (x : ObjOk P w H h a o) : a < h.objs.size := by
 cases o with
 | lst xs => obtain ⟨_,_,_,_,e⟩ := x; exact Heap.lt_size e
 | tup xs => obtain ⟨_,_,_,p⟩ := x; exact p.lt
 | dK kvs => obtain ⟨_,_,_,_,o,_,_,e,_⟩ := x; exact Heap.lt_size e
 | dT kvs => obtain ⟨_,_,_,_,o,_,_,e,_⟩ := x; exact Heap.lt_size e
 | set S n => obtain ⟨o,_,_,_,e,_⟩ := x; exact Heap.lt_size e
 | ins C dx fs => obtain ⟨_,_,_,e,_⟩ := x; exact Heap.lt_size e
 | own y => obtain ⟨_,e⟩ := x; exact Heap.lt_size e
 | xd fs => obtain ⟨_,⟨_,_,_,e,_⟩,_⟩ := x; exact Heap.lt_size e
 | rng lo hi => obtain ⟨_,_,_,e⟩ := x; exact Heap.lt_size e
 | frz ob u => obtain ⟨e,_⟩ := x; exact Heap.lt_size e
 | tbl ps => exact Heap.lt_size (show h.get? a = some _ from x)
 | met f y => exact Heap.lt_size (show h.get? a = some _ from x)
 | ext φ => obtain ⟨_,⟨_,e⟩,_⟩ := x; exact Heap.lt_size e
theorem Paired.mapP {α β : Type} {F G : α -> β -> Prop} : ∀ {l₁ : List α} {l₂ : List β},Paired F l₁ l₂ -> (∀ a b,F a b -> G a b) -> Paired G l₁ l₂
 | _,_,.nil,_ => .nil
 | _,_,.cons r t,f => .cons (f _ _ r) (Paired.mapP t f)
theorem ObjOk.stay (x : ObjOk P w H h a o) (k : ∀ b u,(b = a \/ H b = some (.own a)) -> h.get? b = some u -> h'.get? b = some u)
  (ho : ∀ b,H b = some (.own a) -> H' b = some (.own a)) (ht : ∀ b xs,H b = some (.tup xs) -> H' b = some (.tup xs)) : ObjOk P w H' h' a o := by
 induction o with
 | lst xs => obtain ⟨z,its,n,r,e⟩ := x; exact ⟨z,its,n,r,k _ _ (.inl rfl) e⟩
 | tup xs => obtain ⟨z,its,r,ob,e,c⟩ := x; exact ⟨z,its,r,ob,k _ _ (.inl rfl) e,c⟩
 | dK kvs => obtain ⟨z,y,vs,r,ob,es,ep,e,c⟩ := x; exact ⟨z,y,vs,r,ob,es,ep,k _ _ (.inl rfl) e,c⟩
 | dT kvs =>
  obtain ⟨z,y,xs,r,ob,es,ep,e,c⟩ := x
  exact ⟨z,y,xs,Paired.mapP r fun p q z => ⟨z.1,ht _ _ z.2.1,z.2.2⟩,ob,es,ep,k _ _ (.inl rfl) e,c⟩
 | set S n => obtain ⟨ob,es,ep,t,e,c⟩ := x; exact ⟨ob,es,ep,t,k _ _ (.inl rfl) e,c⟩
 | ins C dx fs =>
  obtain ⟨d,z,ne,e,mA,⟨od,es,ep,e2,c⟩,r⟩ := x
  exact ⟨ho _ d,z,ne,k _ _ (.inl rfl) e,mA,⟨od,es,ep,k _ _ (.inr d) e2,c⟩,r⟩
 | own y => obtain ⟨ob,e⟩ := x; exact ⟨ob,k _ _ (.inl rfl) e⟩
 | xd fs => obtain ⟨mA,⟨od,es,ep,e,c⟩,r⟩ := x; exact ⟨mA,⟨od,es,ep,k _ _ (.inl rfl) e,c⟩,r⟩
 | rng lo hi => obtain ⟨t,u,v,e⟩ := x; exact ⟨t,u,v,k _ _ (.inl rfl) e⟩
 | frz ob u ih => obtain ⟨e,q⟩ := x; exact ⟨k _ _ (.inl rfl) e,ih q⟩
 | tbl ps =>
  have e : h.get? a = some { cls := .none,data := .fields ps } := x
  show h'.get? a = some { cls := .none,data := .fields ps }
  exact k a _ (.inl rfl) e
 | met f y =>
  have e : h.get? a = some (PySem.W.methodObj (.ref f) (.ref y)) := x
  show h'.get? a = some (PySem.W.methodObj (.ref f) (.ref y))
  exact k a _ (.inl rfl) e
 | ext φ => obtain ⟨p,⟨o,e⟩,st⟩ := x; exact ⟨st _ _ p fun o q => k _ _ (.inl rfl) q,⟨o,k _ _ (.inl rfl) e⟩,st⟩
theorem HOk.lt (x : HOk P w H h) (e : H a = some o) : a < h.objs.size := (x a o e).lt
theorem HOk.fresh (x : HOk P w H h) (e : h.objs.size <= a) : H a = none := by
 cases q : H a with
 | none => rfl
 | some u => exact absurd (Nat.lt_of_lt_of_le (x.lt q) e) (Nat.lt_irrefl _)
theorem HOk.kept (x : HOk P w H h) (k : ∀ b u,h.get? b = some u -> h'.get? b = some u) : HOk P w H h' := fun a o e =>
 (x a o e).stay (fun b u _ q => k b u q) (fun _ q => q) fun _ _ q => q
theorem HOk.laid (x : HOk P w H h) (k : ∀ b u,h.get? b = some u -> h'.get? b = some u) (hp : h.objs.size <= a) (new : ObjOk P w (upd H a o) h' a o) : HOk P w (upd H a o) h' := fun b u e => by
 have hn := x.fresh hp
 by_cases hb : b = a
 ·subst hb; rw [Ak] at e; cases e; exact new
 ·rw [Au hb] at e
  exact (x b u e).stay (fun c v _ q => k c v q) (fun c q => by rw [Au (A6 q hn)]; exact q) fun c xs q => by rw [Au (A6 q hn)]; exact q
end
def Rd (H : Hp) (a : Addr) (u : HO) : Prop := H a = some u \/ ∃ o,H a = some (.frz o u)
theorem Rd.ok {P : Program} {w : World} {H : Hp} {h : Heap} {a : Addr} {u : HO} (r : Rd H a u) (x : HOk P w H h) : ObjOk P w H h a u := by
 rcases r with r | ⟨o,r⟩
 ·exact x a u r
 ·obtain ⟨_,q⟩ := x a _ r
  exact q
def Fd : Option HO -> Prop
 | some (.lst _) => True
 | some (.dK _) => True
 | some (.dT _) => True
 | some (.set _ _) => True
 | some (.ins _ _ _) => True
 | some (.ext _) => True
 | _ => False
section
variable {P : Program} {w : World} {H : Hp} {h h' : Heap} {x e : Addr} {o' : HO}
theorem HOk.write (ok : HOk P w H h) (mu : Fd (H x)) (he : e = x \/ H e = some (.own x)) (k : ∀ b u,b ≠ e -> h.get? b = some u -> h'.get? b = some u) (heo : ∃ u,h'.get? e = some u)
  (new : ObjOk P w (upd H x o') h' x o') : HOk P w (upd H x o') h' := fun b u q => by
 have nown : ∀ c y,H c = some (.own y) -> c ≠ x := fun c y r z => by subst z; rw [r] at mu; exact mu
 have ntup : ∀ c xs,H c = some (.tup xs) -> c ≠ x := fun c xs r z => by subst z; rw [r] at mu; exact mu
 by_cases hb : b = x
 ·subst hb; rw [Ak] at q; cases q; exact new
 ·rw [Au hb] at q
  by_cases hbe : b = e
  ·have q' : H b = some (.own x) := by
    rcases he with z | z
    ·exact absurd (hbe.trans z) hb
    ·rw [hbe]; exact z
   rw [q] at q'; cases q'
   obtain ⟨v,hv⟩ := heo
   exact ⟨v,by rw [hbe]; exact hv⟩
  ·refine (ok b u q).stay (fun c v hc r => k c v ?_ r) (fun c r => by rw [Au (nown c b r)]; exact r) fun c xs r => by rw [Au (ntup c xs r)]; exact r
   rcases hc with rfl | hc
   ·exact hbe
   ·rintro rfl
    rcases he with z | z
    ·exact nown c b hc z
    ·rw [hc] at z; cases z; exact hb rfl
end
structure Un (fs ex : List Addr) (H H' : Hp) (h h' : Heap) : Prop where
 keep : ∀ b o,h.get? b = some o -> H b = none -> b ∉ fs -> b ∉ ex -> h'.get? b = some o
 slot : ∀ b o,h.get? b = some o -> H b = none -> b ∈ fs -> b ∉ ex -> ∃ sl,h'.get? b = some { o with slots := sl }
 free : ∀ b o,h.get? b = some o -> H b = none -> b ∉ ex -> H' b = none
 there : ∀ b o,h.get? b = some o -> b ∉ ex -> ∃ o',h'.get? b = some o'
 tups : ∀ b xs,H b = some (.tup xs) -> H' b = some (.tup xs)
 frzs : ∀ b o u,H b = some (.frz o u) -> H' b = some (.frz o u)
 tbls : ∀ b ps,H b = some (.tbl ps) -> ∃ more,H' b = some (.tbl (ps ++ more))
section
variable {fs fs' ex ex' : List Addr} {H H1 H2 : Hp} {h h1 h2 h' : Heap} {a x e : Addr} {o : HO}
theorem Un.any (u : Un fs ex H H1 h h1) {b : Addr} {ob : Obj} (q : h.get? b = some ob) (n : H b = none) (hx : b ∉ ex) : ∃ sl,h1.get? b = some { ob with slots := sl } := by
 by_cases hb : b ∈ fs
 ·exact u.slot b ob q n hb hx
 ·exact ⟨ob.slots,u.keep b ob q n hb hx⟩
theorem Un.kept (k : ∀ b u,h.get? b = some u -> h'.get? b = some u) : Un fs ex H H h h' :=
 ⟨fun b ob q _ _ _ => k b ob q,fun b ob q _ _ _ => ⟨ob.slots,k b ob q⟩,fun _ _ _ n _ => n,fun b ob q _ => ⟨ob,k b ob q⟩,fun _ _ q => q,fun _ _ _ q => q,fun _ ps q => ⟨#[],by rw [q]; simp⟩⟩
theorem Un.refl : Un fs ex H H h h := Un.kept fun _ _ q => q
theorem Un.laid (k : ∀ b u,h.get? b = some u -> h'.get? b = some u) (hp : h.objs.size <= a) (hn : H a = none) : Un fs ex H (upd H a o) h h' where
 keep := fun b u q _ _ _ => k b u q
 slot := fun b u q _ _ _ => ⟨u.slots,k b u q⟩
 free := fun b u q n _ => by rw [Au (Nat.ne_of_lt (Nat.lt_of_lt_of_le (Heap.lt_size q) hp))]; exact n
 there := fun b u q _ => ⟨u,k b u q⟩
 tups := fun b xs q => by rw [Au (A6 q hn)]; exact q
 frzs := fun b u xs q => by rw [Au (A6 q hn)]; exact q
 tbls := fun b ps q => ⟨#[],by rw [Au (A6 q hn),q]; simp⟩
theorem Un.write (mu : Fd (H x)) (he : e = x \/ H e = some (.own x)) (k : ∀ b u,b ≠ e -> h.get? b = some u -> h'.get? b = some u) (heo : ∃ u,h'.get? e = some u) : Un fs ex H (upd H x o) h h' := by
 have hx : ∀ b,H b = none -> b ≠ x := fun b n z => by subst z; rw [n] at mu; exact mu
 have hb : ∀ b,H b = none -> b ≠ e := fun b n z => by
  subst z
  rcases he with r | r
  ·exact hx b n r
  ·rw [n] at r; cases r
 have hm : ∀ b u,H b = some u -> ¬ Fd (some u) -> b ≠ x := fun b u q nm z => by subst z; rw [q] at mu; exact nm mu
 refine ⟨fun b u q n _ _ => k b u (hb b n) q,fun b u q n _ _ => ⟨u.slots,k b u (hb b n) q⟩,fun b u q n _ => by rw [Au (hx b n)]; exact n,fun b u q _ => ?_,
  fun b xs q => by rw [Au (hm b _ q fun z => z)]; exact q,fun b u xs q => by rw [Au (hm b _ q fun z => z)]; exact q,fun b ps q => ⟨#[],by rw [Au (hm b _ q fun z => z),q]; simp⟩⟩
 by_cases hbe : b = e
 ·subst hbe; exact heo
 ·exact ⟨u,k b u hbe q⟩
end
def Fe (h : Heap) (H : Hp) : List Addr := (List.range h.objs.size).filter fun a => (H a).isSome
def CT (h : Heap) (H : Hp) : Heap := PySem.W.hideAll h (Fe h H)
theorem Lr (h : Heap) (H : Hp) : (CT h H).objs.size = h.objs.size := PySem.W.hideAll_size _ _
theorem Ls {h : Heap} {H : Hp} {b : Addr} {o : Obj} (e : h.get? b = some o) (n : H b = none) : (CT h H).get? b = some o :=
 PySem.W.hideAll_get _ e fun hm => by
  have q : (H b).isSome = true := (List.mem_filter.mp hm).2
  rw [n] at q; simp at q
theorem Lu {h : Heap} {H : Hp} {b : Addr} {o : Obj} (e : (CT h H).get? b = some o) : h.get? b = some o /\ H b = none := by
 have e' : h.get? b = some o := PySem.W.of_hideAll (Fe h H) e
 refine ⟨e',?_⟩
 cases q : H b with
 | none => rfl
 | some x =>
  have hm : b ∈ Fe h H := List.mem_filter.mpr ⟨List.mem_range.mpr (Heap.lt_size e'),by simp [q]⟩
  have z : (CT h H).get? b = none := PySem.W.hideAll_none (Fe h H) hm
  rw [z] at e; cases e
def Lv (g h : Heap) (L : Addr) : List (Addr × Obj) := (List.range h.objs.size).filterMap fun a => if a = L \/ (g.get? a).isSome = true then none else (h.get? a).map fun o => (a,o)
def rest (g h : Heap) (L d : Addr) : List (Addr × Obj) := (Lv g h L).filter fun p => decide (p.1 ≠ d)
end L2
namespace L2
open PySem PySem.Spec PyProof.Rows
variable {g' : Array GenState} {t' i : Nat} {d' : Drawn} {ch : List Addr} {M : Model} {E : Value -> Shared -> Prop} {v : V} {u : Value} {Q : Unit -> Shared -> Prop}
structure Mod (K : PySem.W.Frag) (mg : Str -> Option Value) (base : Heap) : Prop where
 kin : K.In base
 glob : base.Ns mainGlobals mg
 blt : ∃ mb,base.Ns builtinsNs mb /\ ∀ x : Str,x ≠ "__name__" -> mb x = bootBuiltins x
 nolimit : base.NoLimit
structure Cx where
 prog : Program
 w : World
 K : PySem.W.Frag
 mg : Str -> Option Value
 base : Heap
 A : Around
 N : List Str
 s₀ : Shared
 H₀ : Hp
 env : Env
 outer : List Env
 stack : List Env
 ex : List Addr
 fn : Str -> Bool
 calm : Bool
 pn : List (Addr × Obj)
 xe : Value -> Shared -> Prop
def Bq (l : List Env) : List Addr := l.filterMap (·.frame)
abbrev Cx.fs (X : Cx) : List Addr := Bq X.outer
def DU (sc : Scope) (x : Str) : Prop := sc.names.lookup x = some .local \/ sc.names.lookup x = some .cell \/ sc.names.lookup x = some .free
def De (sc : Scope) (x : Str) : Prop := sc.names.lookup x = some .local \/ sc.names.lookup x = some .cell
def Lw (env : Env) (h : Heap) (m : Str -> Option Value) (x : Str) (u : Value) : Prop :=
 (env.kindOf x = some .local /\ m x = some u) \/ ((env.kindOf x = some .cell \/ env.kindOf x = some .free) /\ ∃ c,env.cells.lookup x = some c /\ h.IsCell c (some u))
structure Cx.Ok (X : Cx) : Prop where
 mod : Mod X.K X.mg X.base
 kind : X.env.scope.kind = .function
 glob : X.env.globals = mainGlobals
 blt : X.env.builtins = builtinsNs
 above : X.s₀.heap.objs.size <= X.env.locals
 inj : ∀ x y c,X.env.cells.lookup x = some c -> X.env.cells.lookup y = some c -> x = y
 has : ∀ x,(X.env.kindOf x = some .cell \/ X.env.kindOf x = some .free) -> ∃ c,X.env.cells.lookup x = some c
 cab : ∀ x c,X.fn x = true -> X.env.cells.lookup x = some c -> X.s₀.heap.objs.size <= c
 hd : X.calm = true -> X.A.handled = none
 frames : X.A.frames = some X.stack
 stk : X.stack = X.outer \/ (X.stack = X.env :: X.outer /\ X.env.frame = some X.env.locals)
 exf : ∀ b ∈ X.ex,b ≠ X.env.locals /\ ∀ x c,X.env.cells.lookup x = some c -> c ≠ b
 bs : ∀ b o,X.base.get? b = some o -> X.s₀.heap.get? b = some o /\ X.H₀ b = none
 bsz : X.base.objs.size <= X.s₀.heap.objs.size
 noex : ∀ b o,X.base.get? b = some o -> b ∉ X.ex
 exfs : ∀ b ∈ X.ex,b ∉ X.fs
 funs : X.s₀.heap.FunFrames X.base X.outer
 frf : ∀ b ∈ X.fs,X.H₀ b = none
structure Ae (X : Cx) (pins : List (Addr × Obj)) (σ : List (Option V)) (H : Hp) (s : Shared) : Prop where
 ok : X.Ok
 os : s.os = X.s₀.os
 bare : AllBare s.gens
 base : Un X.fs X.ex X.H₀ H X.s₀.heap s.heap
 loc : ∃ m,s.heap.Ns X.env.locals m /\ ∀ (i : Nat) (x : Str) (v : V),X.N[i]? = some x -> σ[i]? = some (some v) -> DU X.env.scope x -> ∃ u,AA v u /\ Lw X.env s.heap m x u
 cell : ∀ x c,X.env.cells.lookup x = some c -> ∃ v,s.heap.IsCell c v
 free : H X.env.locals = none
 freeC : ∀ x c,X.env.cells.lookup x = some c -> H c = none
 pin : ∀ p ∈ X.pn ++ pins,s.heap.get? p.1 = some p.2 /\ H p.1 = none /\ p.1 ≠ X.env.locals /\ p.1 ∉ X.fs /\ ∀ v,p.2.data ≠ .cell v
 hok : HOk X.prog X.w H s.heap
 len : σ.length = X.N.length
section
variable {X : Cx} {pins : List (Addr × Obj)} {σ : List (Option V)} {H H' : Hp} {s : Shared} {h' : Heap}
theorem Cx.Ok.nofr (ok : X.Ok) {b : Addr} {o : Obj} (e : X.base.get? b = some o) : b ∉ X.fs := fun hb => by
 have := (ok.funs.mem hb).1
 rw [e] at this; cases this
theorem Ae.bs (I : Ae X pins σ H s) : ∀ b o,X.base.get? b = some o -> s.heap.get? b = some o /\ H b = none := fun b o e =>
 ⟨I.base.keep b o (I.ok.bs b o e).1 (I.ok.bs b o e).2 (I.ok.nofr e) (I.ok.noex b o e),I.base.free b o (I.ok.bs b o e).1 (I.ok.bs b o e).2 (I.ok.noex b o e)⟩
theorem Ae.bk (I : Ae X pins σ H s) : ∀ b o,X.base.get? b = some o -> s.heap.get? b = some o := fun b o e => (I.bs b o e).1
theorem Ae.mod (I : Ae X pins σ H s) : Mod X.K X.mg X.base := I.ok.mod
theorem Ae.kIn (I : Ae X pins σ H s) : X.K.In s.heap := I.ok.mod.kin.keeps I.bk
theorem Ae.lt (I : Ae X pins σ H s) : X.env.locals < s.heap.objs.size := let ⟨_,hn,_⟩ := I.loc; hn.lt
theorem Ae.sz (I : Ae X pins σ H s) : X.s₀.heap.objs.size <= s.heap.objs.size := Nat.le_trans I.ok.above (Nat.le_of_lt I.lt)
theorem Ae.nofs (I : Ae X pins σ H s) {a : Addr} (h : s.heap.objs.size <= a) : a ∉ X.fs := fun hb => by
 obtain ⟨_,o,ho,_⟩ := I.ok.funs.mem hb
 exact absurd (Nat.lt_of_lt_of_le (Heap.lt_size ho) (Nat.le_trans I.sz h)) (Nat.lt_irrefl _)
theorem Ae.cne (I : Ae X pins σ H s) : ∀ x c,X.env.cells.lookup x = some c -> c ≠ X.env.locals := fun x c e z => by
 obtain ⟨v,o,ho,hd⟩ := I.cell x c e
 obtain ⟨m,⟨o',es,ep,ho',hd',_⟩,_⟩ := I.loc
 rw [z,ho'] at ho; cases ho; rw [hd'] at hd; cases hd
theorem Ae.funs (I : Ae X pins σ H s) : s.heap.FunFrames X.base X.outer := by
 have all : ∀ (l : List Env),(∀ b ∈ Bq l,b ∈ X.fs) -> X.s₀.heap.FunFrames X.base l -> s.heap.FunFrames X.base l := by
  intro l
  induction l with
  | nil => intro _ _; trivial
  | cons env r ih =>
   intro hs hl
   obtain ⟨hk,⟨L,o,hf,hn,ho,hd⟩,hr⟩ := hl
   have hL : L ∈ X.fs := hs L (by unfold Bq; rw [List.filterMap_cons,hf]; exact List.mem_cons_self)
   obtain ⟨sl,e⟩ := I.base.slot L o ho (I.ok.frf L hL) hL fun z => I.ok.exfs L z hL
   exact ⟨hk,⟨L,_,hf,hn,e,hd⟩,ih (fun b hb => hs b (by unfold Bq; rw [List.filterMap_cons,hf]; exact List.mem_cons_of_mem _ hb)) hr⟩
 exact all X.outer (fun _ hb => hb) I.ok.funs
theorem Ae.stack (I : Ae X pins σ H s) : s.heap.FunFrames X.base X.stack := by
 rcases I.ok.stk with e | ⟨e,hf⟩
 ·rw [e]; exact I.funs
 ·rw [e]
  obtain ⟨m,hn,_⟩ := I.loc
  refine .cons (by rw [I.ok.kind]; decide) hf hn ?_ I.funs
  exact Heap.get?_none_of_le (Nat.le_trans I.ok.bsz I.ok.above)
theorem Ae.stkSub (I : Ae X pins σ H s) : ∀ b ∈ Bq X.stack,b ∈ X.env.locals :: X.fs := fun b hb => by
 rcases I.ok.stk with e | ⟨e,hf⟩
 ·rw [e] at hb; exact List.mem_cons_of_mem _ hb
 ·rw [e] at hb
  unfold Bq at hb
  rw [List.filterMap_cons,hf] at hb
  exact hb
theorem Ae.stkFree (I : Ae X pins σ H s) : ∀ b ∈ Bq X.stack,H b = none := fun b hb => by
 rcases List.mem_cons.mp (I.stkSub b hb) with e | hb
 ·rw [e]; exact I.free
 ·obtain ⟨_,o,ho,_⟩ := I.ok.funs.mem hb
  exact I.base.free b o ho (I.ok.frf b hb) fun z => I.ok.exfs b z hb
theorem Ae.step (I : Ae X pins σ H s)
  (hch : ∀ b ∈ ch,(b ∈ X.ex \/ X.s₀.heap.objs.size <= b) /\ b ≠ X.env.locals /\ (∀ x c,X.env.cells.lookup x = some c -> c ≠ b) /\ ∀ p ∈ X.pn ++ pins,p.1 ≠ b)
  (keep : ∀ b o,b ≠ X.env.locals -> b ∉ X.fs -> b ∉ ch -> s.heap.get? b = some o -> H b = none -> h'.get? b = some o)
  (slot : ∀ b o,b ≠ X.env.locals -> b ∈ X.fs -> b ∉ ch -> s.heap.get? b = some o -> H b = none -> ∃ sl,h'.get? b = some { o with slots := sl }) (free : ∀ b o,b ∉ ch -> s.heap.get? b = some o -> H b = none -> H' b = none)
  (there : ∀ b o,b ∉ ch -> s.heap.get? b = some o -> ∃ o',h'.get? b = some o')
  (tups : ∀ b xs,H b = some (.tup xs) -> H' b = some (.tup xs)) (frzs : ∀ b o u,H b = some (.frz o u) -> H' b = some (.frz o u)) (tbls : ∀ b ps,H b = some (.tbl ps) -> ∃ more,H' b = some (.tbl (ps ++ more)))
  (ns : ∀ m,s.heap.Ns X.env.locals m -> h'.Ns X.env.locals m) (hok : HOk X.prog X.w H' h') (hg : AllBare g') :
  Ae X pins σ H' { s with heap := h',gens := g',drawn := d',toks := t' } := by
 have neL : ∀ b o,X.s₀.heap.get? b = some o -> b ≠ X.env.locals := fun b o e => Nat.ne_of_lt (Nat.lt_of_lt_of_le (Heap.lt_size e) I.ok.above)
 have neC : ∀ b o,X.s₀.heap.get? b = some o -> b ∉ X.ex -> b ∉ ch := fun b o e hx hb => by
  rcases (hch b hb).1 with z | z
  ·exact hx z
  ·exact absurd (Nat.lt_of_lt_of_le (Heap.lt_size e) z) (Nat.lt_irrefl _)
 have cellK : ∀ x c,X.env.cells.lookup x = some c -> ∀ v,s.heap.IsCell c v -> h'.IsCell c v := fun x c e v ⟨o,ho,hd⟩ => by
  have nch : c ∉ ch := fun z => (hch c z).2.2.1 x c e rfl
  by_cases hc : c ∈ X.fs
  ·obtain ⟨sl,q⟩ := slot c o (I.cne x c e) hc nch ho (I.freeC x c e)
   exact ⟨_,q,hd⟩
  ·exact ⟨o,keep c o (I.cne x c e) hc nch ho (I.freeC x c e),hd⟩
 refine ⟨I.ok,I.os,hg,⟨fun b o e n hb hx => ?_,fun b o e n hb hx => ?_,fun b o e n hx => ?_,fun b o e hx => ?_,fun b xs e => tups b xs (I.base.tups b xs e),fun b o xs e => frzs b o xs (I.base.frzs b o xs e),fun b ps e => ?_⟩,?_,fun x c e => ?_,?_,fun x c e => ?_,fun p hp => ?_,hok,I.len⟩
 ·exact keep b o (neL b o e) hb (neC b o e hx) (I.base.keep b o e n hb hx) (I.base.free b o e n hx)
 ·obtain ⟨sl,e1⟩ := I.base.slot b o e n hb hx
  obtain ⟨sl',e2⟩ := slot b _ (neL b o e) hb (neC b o e hx) e1 (I.base.free b o e n hx)
  exact ⟨sl',e2⟩
 ·obtain ⟨o',e1⟩ := I.base.there b o e hx
  exact free b o' (neC b o e hx) e1 (I.base.free b o e n hx)
 ·obtain ⟨o',e1⟩ := I.base.there b o e hx
  exact there b o' (neC b o e hx) e1
 ·obtain ⟨m1,e1⟩ := I.base.tbls b ps e
  obtain ⟨m2,e2⟩ := tbls b _ e1
  exact ⟨m1 ++ m2,by rw [e2,Array.append_assoc]⟩
 ·obtain ⟨m,hn,hl⟩ := I.loc
  refine ⟨m,ns m hn,fun i x v e1 e2 e3 => ?_⟩
  obtain ⟨u,r,l⟩ := hl i x v e1 e2 e3
  refine ⟨u,r,?_⟩
  rcases l with l | ⟨k,c,e,z⟩
  ·exact .inl l
  ·exact .inr ⟨k,c,e,cellK x c e _ z⟩
 ·obtain ⟨v,z⟩ := I.cell x c e
  exact ⟨v,cellK x c e v z⟩
 ·obtain ⟨m,⟨o,_,_,ho,_⟩,_⟩ := I.loc
  exact free _ o (fun z => (hch _ z).2.1 rfl) ho I.free
 ·obtain ⟨v,o,ho,hd⟩ := I.cell x c e
  exact free c o (fun z => (hch c z).2.2.1 x c e rfl) ho (I.freeC x c e)
 ·obtain ⟨e,n,ne,nf,d⟩ := I.pin p hp
  have nch : p.1 ∉ ch := fun z => (hch p.1 z).2.2.2 p hp rfl
  exact ⟨keep p.1 p.2 ne nf nch e n,free p.1 p.2 nch e n,ne,nf,d⟩
theorem Ae.un (I : Ae X pins σ H s) (u : Un X.fs [] H H' s.heap h') (hok : HOk X.prog X.w H' h') : Ae X pins σ H' { s with heap := h',toks := t' } := by
 obtain ⟨m,⟨o,es,ep,ho,r⟩,_⟩ := id I.loc
 obtain ⟨sl,hL⟩ := u.any ho I.free (by simp)
 exact I.step (g' := s.gens) (d' := s.drawn) (ch := []) (fun _ z => nomatch z) (fun b o _ hb _ e n => u.keep b o e n hb (by simp)) (fun b o _ hb _ e n => u.slot b o e n hb (by simp)) (fun b o _ e n => u.free b o e n (by simp)) (fun b o _ e => u.there b o e (by simp)) u.tups u.frzs u.tbls (fun m' hm => by
  obtain ⟨o',es',ep',ho',r'⟩ := hm
  rw [ho] at ho'; cases ho'
  exact ⟨_,es',ep',hL,r'⟩) hok I.bare
theorem Ae.call (I : Ae X pins σ H s) (u : Un (Bq X.stack) ch H H' s.heap h') (hok : HOk X.prog X.w H' h') (hg : AllBare g')
  (hch : ∀ b ∈ ch,(b ∈ X.ex \/ X.s₀.heap.objs.size <= b) /\ b ≠ X.env.locals /\ (∀ x c,X.env.cells.lookup x = some c -> c ≠ b) /\ ∀ p ∈ X.pn ++ pins,p.1 ≠ b) :
  Ae X pins σ H' { s with heap := h',gens := g',drawn := d',toks := t' } := by
 obtain ⟨m,⟨o,es,ep,ho,r⟩,_⟩ := id I.loc
 obtain ⟨sl,hL⟩ := u.any ho I.free fun z => (hch _ z).2.1 rfl
 exact I.step (ch := ch) hch (fun b o hL hb hc e n => u.keep b o e n (fun z => (List.mem_cons.mp (I.stkSub b z)).elim hL hb) hc) (fun b o _ _ hc e n => u.any e n hc) (fun b o hc e n => u.free b o e n hc) (fun b o hc e => u.there b o e hc) u.tups u.frzs u.tbls (fun m' hm => by
  obtain ⟨o',es',ep',ho',r'⟩ := hm
  rw [ho] at ho'; cases ho'
  exact ⟨_,es',ep',hL,r'⟩) hok hg
theorem Ae.turned {it : Addr} (I : Ae X pins σ H s) (k : ∀ b o,b ≠ it -> s.heap.get? b = some o -> h'.get? b = some o) (hn : H it = none) (hL : it ≠ X.env.locals)
  (h1 : it ∈ X.ex \/ X.s₀.heap.objs.size <= it) (h2 : ∀ x c,X.env.cells.lookup x = some c -> c ≠ it) (h3 : ∀ p ∈ X.pn ++ pins,p.1 ≠ it) : Ae X pins σ H { s with heap := h',toks := t' } := by
 have nit : ∀ b u,H b = some u -> b ≠ it := fun b u e z => by rw [z,hn] at e; cases e
 refine I.step (g' := s.gens) (d' := s.drawn) (ch := [it]) (fun b hb => ?_) (fun b o _ _ hc e _ => k b o (fun z => hc (by simp [z])) e) (fun b o _ _ hc e _ => ⟨o.slots,k b o (fun z => hc (by simp [z])) e⟩) (fun _ _ _ _ n => n)
  (fun b o hc e => ⟨o,k b o (fun z => hc (by simp [z])) e⟩) (fun _ _ e => e) (fun _ _ _ e => e) (fun b ps e => ⟨#[],by rw [e]; simp⟩) (fun m hm => ?_) (fun b u e => ?_) I.bare
 ·have e : b = it := by simpa using hb
  subst e
  exact ⟨h1,hL,h2,h3⟩
 ·obtain ⟨o,es,ep,ho,r⟩ := hm
  exact ⟨o,es,ep,k _ o (Ne.symm hL) ho,r⟩
 ·refine (I.hok b u e).stay (fun c v hc q => k c v ?_ q) (fun _ q => q) fun _ _ q => q
  rcases hc with z | z
  ·rw [z]; exact nit b u e
  ·exact nit c _ z
theorem Ae.tok (I : Ae X pins σ H s) (t : Nat) : Ae X pins σ H { s with toks := t } := I.un (h' := s.heap) (t' := t) Un.refl I.hok
theorem Ae.kept (I : Ae X pins σ H s) (k : ∀ b u,s.heap.get? b = some u -> h'.get? b = some u) : Ae X pins σ H { s with heap := h',toks := t' } := I.un (Un.kept k) (I.hok.kept k)
theorem Ae.laid {a : Addr} {o : HO} (I : Ae X pins σ H s) (k : ∀ b u,s.heap.get? b = some u -> h'.get? b = some u) (hp : s.heap.objs.size <= a) (new : ObjOk X.prog X.w (upd H a o) h' a o) :
  Ae X pins σ (upd H a o) { s with heap := h',toks := t' } := I.un (Un.laid k hp (I.hok.fresh hp)) (I.hok.laid k hp new)
theorem Ae.write {x e : Addr} {o : HO} (I : Ae X pins σ H s) (mu : Fd (H x)) (he : e = x \/ H e = some (.own x)) (k : ∀ b u,b ≠ e -> s.heap.get? b = some u -> h'.get? b = some u) (heo : ∃ u,h'.get? e = some u)
  (new : ObjOk X.prog X.w (upd H x o) h' x o) : Ae X pins σ (upd H x o) { s with heap := h',toks := t' } := I.un (Un.write mu he k heo) (I.hok.write mu he k heo new)
theorem Ae.weak {σ' : List (Option V)} (I : Ae X pins σ H s) (hl : σ'.length = σ.length) (w : ∀ (i : Nat) v,σ'[i]? = some (some v) -> σ[i]? = some (some v)) : Ae X pins σ' H s :=
 ⟨I.ok,I.os,I.bare,I.base,let ⟨m,hn,hl'⟩ := I.loc; ⟨m,hn,fun i x v e1 e2 e3 => hl' i x v e1 (w i v e2) e3⟩,I.cell,I.free,I.freeC,I.pin,I.hok,hl.trans I.len⟩
theorem Ae.pins_of {pins' : List (Addr × Obj)} (I : Ae X pins σ H s) (h : ∀ p ∈ pins',s.heap.get? p.1 = some p.2 /\ H p.1 = none /\ p.1 ≠ X.env.locals /\ p.1 ∉ X.fs /\ ∀ v,p.2.data ≠ .cell v) : Ae X pins' σ H s :=
 ⟨I.ok,I.os,I.bare,I.base,I.loc,I.cell,I.free,I.freeC,fun p hp => (List.mem_append.mp hp).elim (fun z => I.pin p (List.mem_append_left _ z)) (h p),I.hok,I.len⟩
theorem Ir {N : List Str} (hN : N.Nodup) {i j : Nat} {x : Str} (a : N[i]? = some x) (b : N[j]? = some x) : i = j := by
 obtain ⟨h1,e1⟩ := List.getElem?_eq_some_iff.mp a
 obtain ⟨h2,e2⟩ := List.getElem?_eq_some_iff.mp b
 exact (List.getElem_inj hN).mp (e1.trans e2.symm)
theorem G3 {A : Around} {x : Str} (I : Ae X pins σ H s) (hN : X.N.Nodup) (hi : X.N[i]? = some x) (hx : De X.env.scope x) (r : AA v u)
  (h : ∀ s',Ae X pins (σ.set i (some v)) H s' -> (∃ a,Heap.SameBut a s.heap s'.heap /\ (a = X.env.locals \/ X.env.cells.lookup x = some a)) -> Q () s') (hf : X.fn x = true \/ X.env.scope.names.lookup x = some .local := by first | exact .inl rfl | exact .inr rfl | assumption) : wpAny M A (storeName X.env x u) Q E s := by
 obtain ⟨m,hn,hl⟩ := id I.loc
 have hcls : (X.env.scope.kind == .class || (X.env.scope.kind == .module && X.env.locals != X.env.globals)) = false := by rw [I.ok.kind]; rfl
 have hiσ : i < σ.length := by rw [I.len]; exact (List.getElem?_eq_some_iff.mp hi).1
 have cne := I.cne
 have tracked : ∀ {a : Addr} {h' : Heap},(∃ o,s.heap.get? a = some o /\ H a = none) -> Heap.SameBut a s.heap h' -> HOk X.prog X.w H h' := fun {a h'} ha hs b ob e => by
  obtain ⟨_,_,hfree⟩ := ha
  refine (I.hok b ob e).stay (fun c w' hc q => (hs.2 c ?_).trans q) (fun _ q => q) fun _ _ q => q
  rintro rfl
  rcases hc with rfl | hc
  ·rw [hfree] at e; cases e
  ·rw [hfree] at hc; cases hc
 rcases hx with hk | hk
 ·refine wpAny_storeName_local hk hn (fun h' hn' hs => ?_) hcls
  obtain ⟨oL,_,_,hoL,_⟩ := id hn
  refine h _ ⟨I.ok,I.os,I.bare,⟨fun b o e n hb hx => ?_,fun b o e n hb hx => ?_,I.base.free,fun b o e hx => ?_,I.base.tups,I.base.frzs,I.base.tbls⟩,⟨_,hn',fun j y v' e1 e2 e3 => ?_⟩,fun y c e => ?_,I.free,I.freeC,fun p hp => ?_,tracked ⟨oL,hoL,I.free⟩ hs,by simpa using I.len⟩ ⟨_,hs,.inl rfl⟩
  ·exact (hs.2 b (Nat.ne_of_lt (Nat.lt_of_lt_of_le (Heap.lt_size e) I.ok.above))).trans (I.base.keep b o e n hb hx)
  ·obtain ⟨sl,e1⟩ := I.base.slot b o e n hb hx
   exact ⟨sl,(hs.2 b (Nat.ne_of_lt (Nat.lt_of_lt_of_le (Heap.lt_size e) I.ok.above))).trans e1⟩
  ·obtain ⟨o',e1⟩ := I.base.there b o e hx
   exact ⟨o',(hs.2 b (Nat.ne_of_lt (Nat.lt_of_lt_of_le (Heap.lt_size e) I.ok.above))).trans e1⟩
  ·by_cases hj : j = i
   ·subst hj
    rw [hi] at e1; cases e1
    rw [List.getElem?_set_self hiσ] at e2
    cases e2
    exact ⟨u,r,.inl ⟨hk,by simp⟩⟩
   ·rw [List.getElem?_set_ne (Ne.symm hj)] at e2
    obtain ⟨u',r',q⟩ := hl j y v' e1 e2 e3
    refine ⟨u',r',?_⟩
    rcases q with ⟨k,e⟩ | ⟨k,c,e,z⟩
    ·refine .inl ⟨k,?_⟩
     have : y ≠ x := fun e => hj (Ir hN e1 (e ▸ hi))
     simp [this,e]
    ·exact .inr ⟨k,c,e,z.sameBut hs (cne y c e)⟩
  ·obtain ⟨w',z⟩ := I.cell y c e
   exact ⟨w',z.sameBut hs (cne y c e)⟩
  ·obtain ⟨e,n,ne,nf,d⟩ := I.pin p hp
   exact ⟨(hs.2 p.1 ne).trans e,n,ne,nf,d⟩
 ·have hfn : X.fn x = true := by
   rcases hf with z | z
   ·exact z
   ·rw [z] at hk; cases hk
  obtain ⟨c,hc⟩ := I.ok.has x (.inl hk)
  obtain ⟨w',z⟩ := I.cell x c hc
  refine wpAny_storeName_cell I.ok.kind hk hc z (fun h' hc' hs => ?_)
  obtain ⟨oc,hoc,hocd⟩ := id z
  refine h { s with heap := h' } ⟨I.ok,I.os,I.bare,⟨fun b o e n hb hx => ?_,fun b o e n hb hx => ?_,I.base.free,fun b o e hx => ?_,I.base.tups,I.base.frzs,I.base.tbls⟩,⟨m,hn.sameBut hs (Ne.symm (cne x c hc)),fun j y v' e1 e2 e3 => ?_⟩,fun y c' e => ?_,I.free,I.freeC,fun p hp => ?_,tracked ⟨oc,hoc,I.freeC x c hc⟩ hs,by simpa using I.len⟩ ⟨c,hs,.inr hc⟩
  ·exact (hs.2 b (Nat.ne_of_lt (Nat.lt_of_lt_of_le (Heap.lt_size e) (I.ok.cab x c hfn hc)))).trans (I.base.keep b o e n hb hx)
  ·obtain ⟨sl,e1⟩ := I.base.slot b o e n hb hx
   exact ⟨sl,(hs.2 b (Nat.ne_of_lt (Nat.lt_of_lt_of_le (Heap.lt_size e) (I.ok.cab x c hfn hc)))).trans e1⟩
  ·obtain ⟨o',e1⟩ := I.base.there b o e hx
   exact ⟨o',(hs.2 b (Nat.ne_of_lt (Nat.lt_of_lt_of_le (Heap.lt_size e) (I.ok.cab x c hfn hc)))).trans e1⟩
  ·by_cases hj : j = i
   ·subst hj
    rw [hi] at e1; cases e1
    rw [List.getElem?_set_self hiσ] at e2
    cases e2
    exact ⟨u,r,.inr ⟨.inl hk,c,hc,hc'⟩⟩
   ·rw [List.getElem?_set_ne (Ne.symm hj)] at e2
    obtain ⟨u',r',q⟩ := hl j y v' e1 e2 e3
    refine ⟨u',r',?_⟩
    rcases q with q | ⟨k,c',e,z'⟩
    ·exact .inl q
    ·refine .inr ⟨k,c',e,z'.sameBut hs ?_⟩
     rintro rfl
     exact hj (Ir hN e1 (I.ok.inj _ _ _ e hc ▸ hi))
  ·by_cases hcc : c' = c
   ·subst hcc; exact ⟨_,hc'⟩
   ·obtain ⟨w2,z2⟩ := I.cell y c' e
    exact ⟨w2,z2.sameBut hs hcc⟩
  ·obtain ⟨e,n,ne,nf,d⟩ := I.pin p hp
   refine ⟨(hs.2 p.1 ?_).trans e,n,ne,nf,d⟩
   intro q
   rw [q,hoc] at e
   have q' : oc = p.2 := Option.some.inj e
   exact d w' (by rw [<- q']; exact hocd)
theorem Ew {A : Around} {x : Str} (I : Ae X pins σ H s) (hN : X.N.Nodup) (hi : X.N[i]? = some x) (hx : De X.env.scope x) (r : AA v u)
  (h : ∀ s',Ae X pins (σ.set i (some v)) H s' -> Q () s') (hf : X.fn x = true \/ X.env.scope.names.lookup x = some .local := by first | exact .inl rfl | exact .inr rfl | assumption) : wpAny M A (storeName X.env x u) Q E s :=
 G3 I hN hi hx r (fun s' I' _ => h s' I') hf
theorem Ae.call' {s' : Shared} (I : Ae X pins σ H s) (ho : s'.os = s.os) (u : Un (Bq X.stack) ch H H' s.heap s'.heap) (hok : HOk X.prog X.w H' s'.heap) (hg : AllBare s'.gens)
  (hch : ∀ b ∈ ch,(b ∈ X.ex \/ X.s₀.heap.objs.size <= b) /\ b ≠ X.env.locals /\ (∀ x c,X.env.cells.lookup x = some c -> c ≠ b) /\ ∀ p ∈ X.pn ++ pins,p.1 ≠ b) : Ae X pins σ H' s' := by
 obtain ⟨h',g',d',t',o'⟩ := s'
 have e : o' = s.os := ho
 subst e
 exact I.call (g' := g') (t' := t') (d' := d') u hok hg hch
end
abbrev XK := Value -> Option Addr -> Hp -> Prop
abbrev St := List (Option V)
abbrev VK := V -> Hp -> Prop
abbrev TE := St -> Hp -> VK -> Prop
abbrev TT := St -> Hp -> (Bool -> Hp -> Prop) -> Prop
abbrev TA := St -> Hp -> (List V -> Hp -> Prop) -> Prop
structure Cq where
 nx : St -> Hp -> Prop
 rt : VK
 bk : St -> Hp -> Prop := fun _ _ => False
 ct : St -> Hp -> Prop := fun _ _ => False
abbrev TS := Cq -> St -> Hp -> Prop
def EP (X : Cx) (pins : List (Addr × Obj)) (σ : St) (Q : VK) (u : Value) (s' : Shared) : Prop := ∃ v H',Ae X pins σ H' s' /\ AA v u /\ Q v H'
def TP (X : Cx) (pins : List (Addr × Obj)) (σ : St) (Q : Bool -> Hp -> Prop) (b : Bool) (s' : Shared) : Prop := ∃ H',Ae X pins σ H' s' /\ Q b H'
def AP (X : Cx) (pins : List (Addr × Obj)) (σ : St) (Q : List V -> Hp -> Prop) (us : List Value) (s' : Shared) : Prop := ∃ vs H',Ae X pins σ H' s' /\ At vs us /\ Q vs H'
def SP (X : Cx) (pins : List (Addr × Obj)) (D : Cq) (f : Flow) (s' : Shared) : Prop :=
 match f with
 | .next => ∃ σ' H',Ae X pins σ' H' s' /\ D.nx σ' H'
 | .brk => ∃ σ' H',Ae X pins σ' H' s' /\ D.bk σ' H'
 | .cont => ∃ σ' H',Ae X pins σ' H' s' /\ D.ct σ' H'
 | .ret u => ∃ v σ' H',Ae X pins σ' H' s' /\ AA v u /\ D.rt v H'
def PE (X : Cx) (e : Expr) (t : TE) : Prop :=
 ∀ (pins : List (Addr × Obj)) (s : Shared) (σ : St) (H : Hp) (Q : VK),Ae X pins σ H s -> t σ H Q -> wpAny (model X.prog X.w) X.A (eval e X.env) (EP X pins σ Q) X.xe s
def PT (X : Cx) (e : Expr) (t : TT) : Prop :=
 ∀ (pins : List (Addr × Obj)) (s : Shared) (σ : St) (H : Hp) (Q : Bool -> Hp -> Prop),Ae X pins σ H s -> t σ H Q -> wpAny (model X.prog X.w) X.A (isTrue e X.env (eval e X.env)) (TP X pins σ Q) X.xe s
def PW (X : Cx) (e : Expr) (t : TT) : Prop :=
 ∀ (whole : Sem Value) (pins : List (Addr × Obj)) (s : Shared) (σ : St) (H : Hp) (Q : Bool -> Hp -> Prop),Ae X pins σ H s -> t σ H Q -> wpAny (model X.prog X.w) X.A (isTrue e X.env whole) (TP X pins σ Q) X.xe s
theorem PW.pt {X : Cx} {e : Expr} {t : TT} (h : PW X e t) : PT X e t := h _
def PA (X : Cx) (es : List Expr) (t : TA) : Prop :=
 ∀ (pos : Pos) (pins : List (Addr × Obj)) (s : Shared) (σ : St) (H : Hp) (Q : List V -> Hp -> Prop),Ae X pins σ H s -> t σ H Q -> wpAny (model X.prog X.w) X.A (spliced (backTo pos (starEach es X.env))) (AP X pins σ Q) X.xe s
def PS (X : Cx) (st : Stmt) (t : TS) : Prop :=
 ∀ (pins : List (Addr × Obj)) (s : Shared) (σ : St) (H : Hp) (D : Cq),Ae X pins σ H s -> t D σ H -> wpAny (model X.prog X.w) X.A (exec st X.env) (SP X pins D) X.xe s
def PSs (X : Cx) (st : List Stmt) (t : TS) : Prop :=
 ∀ (pins : List (Addr × Obj)) (s : Shared) (σ : St) (H : Hp) (D : Cq),Ae X pins σ H s -> t D σ H -> wpAny (model X.prog X.w) X.A (execs st X.env) (SP X pins D) X.xe s
theorem Ao {α : Type} {t : Sem α} {Q Q' : α -> Shared -> Prop} {A : Around} {s : Shared} (h : wpAny M A t Q E s) (hQ : ∀ a s,Q a s -> Q' a s) : wpAny M A t Q' E s := wpAny_mono h hQ fun _ _ x => x
end L2
namespace L2
open PySem PySem.Spec PyProof.Rows
variable {E Q : Value -> Shared -> Prop} {pins : List (Addr × Obj)} {s : Shared} {σ : St} {H : Hp} {u : Value} {v : V}
section
variable {X : Cx}
def Iu (i : Nat) : TE := fun σ H Q => ∃ v,σ[i]? = some (some v) /\ Q v H
def tC (v : V) : TE := fun _ H Q => Q v H
theorem Iv {i : Nat} {x : Str} {pos : Pos} (hN : X.N[i]? = some x) (hv : DU X.env.scope x) (hd : (x == ("__debug__" : Str)) = false := by decide) (hcd : (x == ("__classdict__" : Str)) = false := by decide) : PE X (.Name x pos) (Iu i) := by
 intro pins s σ H Q I h
 obtain ⟨v,e,h⟩ := h
 obtain ⟨m,hn,hl⟩ := I.loc
 obtain ⟨u,r,l⟩ := hl i x v hN e hv
 have fin : EP X pins σ Q u s := ⟨v,H,I,r,h⟩
 rcases l with ⟨hk,hm⟩ | ⟨hk,c,hc,hcell⟩
 ·exact wpAny_Name (wpAny_loadName_local I.ok.kind hk hn hm fin) hd
 ·rcases hk with hk | hk
  ·exact wpAny_Name (wpAny_loadName_cell I.ok.kind hk hc hcell fin) hd
  ·exact wpAny_Name (wpAny_loadName_free I.ok.kind hk hc hcell fin hcd) hd
theorem Ah {i j pos} : PE X (.Constant (.int i) j pos) (tC (.int i)) := fun _ _ _ H _ I h => wpAny_Constant_int ⟨.int i,H,I.tok _,⟨_,rfl⟩,h⟩
theorem BY {b j pos} : PE X (.Constant (.bool b) j pos) (tC (.bl b)) := fun _ _ _ H _ I h => Constant_bool ⟨.bl b,H,I,rfl,h⟩
theorem BE {j pos} : PE X (.Constant .none j pos) (tC .non) := fun _ _ _ H _ I h => Constant_none ⟨.non,H,I,rfl,h⟩
theorem Cr {x j pos} : PE X (.Constant (.str x) j pos) (tC (.str x)) := fun _ _ _ H _ I h => Calls.Constant_str ⟨.str x,H,I.tok _,⟨_,rfl⟩,h⟩
def Gl (X : Cx) (x : Str) : Prop := X.env.kindOf x = some .globalImplicit
theorem Iw {x : Str} {pos : Pos} (I : Ae X pins σ H s) (hg : Gl X x) (hm : X.mg x = some u) (h : Q u s)
  (hd : (x == ("__debug__" : Str)) = false := by decide) : wpAny (model X.prog X.w) X.A (eval (.Name x pos) X.env) Q E s :=
 Calls.Name_function_global I.ok.kind hg (Calls.loadGlobal_global (by rw [I.ok.glob]; exact I.mod.glob.keeps I.bk) hm h) hd
theorem Cf {x : Str} {pos : Pos} (I : Ae X pins σ H s) (hg : Gl X x) (hm : X.mg x = none) (hv : bootBuiltins x = some u) (h : Q u s)
  (hn : x ≠ "__name__" := by decide) (hd : (x == ("__debug__" : Str)) = false := by decide) : wpAny (model X.prog X.w) X.A (eval (.Name x pos) X.env) Q E s := by
 obtain ⟨mb,h1,h2⟩ := I.mod.blt
 exact Calls.Name_function_global I.ok.kind hg (Calls.loadGlobal_builtin (by rw [I.ok.glob]; exact I.mod.glob.keeps I.bk) hm (by rw [I.ok.blt]; exact h1.keeps I.bk) ((h2 x hn).trans hv) h) hd
theorem Cs {x : Str} {pos : Pos} (hg : Gl X x) (hm : X.mg x = some u) (r : AA v u) (hd : (x == ("__debug__" : Str)) = false := by decide) : PE X (.Name x pos) (tC v) :=
 fun _ _ _ H _ I h => Iw I hg hm ⟨v,H,I,r,h⟩ hd
theorem G4 {x : Str} {pos : Pos} (hg : Gl X x) (hm : X.mg x = none) (hv : bootBuiltins x = some u) (r : AA v u) (hn : x ≠ "__name__" := by decide) (hd : (x == ("__debug__" : Str)) = false := by decide) : PE X (.Name x pos) (tC v) :=
 fun _ _ _ H _ I h => Cf I hg hm hv ⟨v,H,I,r,h⟩ hn hd
variable {a b : Expr} {ta tb : TE} {pos : Pos}
variable {tA tB' : TT} {rest : List Expr}
def Lx (t : TT) : TT := fun σ H Q => t σ H fun c H1 => Q (!c) H1
theorem DV (ha : PT X a tA) : PW X (.BoolOp .And [a] pos) tA := by
 intro wh pins s σ H Q I h
 refine isTrue_and (Ao (ha pins s σ H Q I h) fun c s1 e => ?_)
 cases c with
 | true => exact isTrue_and_nil e
 | false => exact e
theorem Ff (ha : PT X a tA) : PW X (.BoolOp .Or [a] pos) tA := by
 intro wh pins s σ H Q I h
 refine isTrue_or (Ao (ha pins s σ H Q I h) fun c s1 e => ?_)
 cases c with
 | false => exact isTrue_or_nil e
 | true => exact e
theorem BM (ha : PT X a tA) : PT X (.UnaryOp .Not a pos) (Lx tA) := by
 intro pins s σ H Q I h
 exact isTrue_not (ha pins s σ H (fun c H1 => Q (!c) H1) I h)
theorem BF {op} {t : TE} (h : PE X a t) : PE X (.BoolOp op [a] pos) t := fun pins s σ H Q I hw => BoolOp_one (h pins s σ H Q I hw)
end
end L2
namespace L2
open PySem PySem.Spec PyProof.Rows
variable {i : Nat} {ti : TE} {tg : Expr} {pos' : Pos} {op : Operator} {P : Program}
def An (K : PySem.W.Frag) (H : Hp) (a : Addr) (xs : List V) : Prop :=
 Rd H a (.lst xs) \/
  ∃ (o : Obj) (its : Array Value) (n : Nat),K.lookup a = some o /\ o.cls = .type "list" /\ o.dict = none /\ o.data = .seq its n /\ its.size <= sizeLine /\ At xs its.toList
def Ac (K : PySem.W.Frag) (H : Hp) (a : Addr) (xs : List V) : Prop :=
 Rd H a (.tup xs) \/
  ∃ (o : Obj) (its : Array Value) (n : Nat),K.lookup a = some o /\ o.cls = .type "tuple" /\ o.data = .seq its n /\ its.size <= sizeLine /\ At xs its.toList
def Ly : Value -> Option V
 | .none => some .non
 | .bool b => some (.bl b)
 | .int i _ => some (.int i)
 | .str x _ => some (.str x)
 | .bytes b _ => some (.byt b)
 | .float b _ => some (.flt b)
 | .ref a => some (.ref a)
 | .type n => some (.ty n)
 | _ => none
theorem AA.abs {x : V} {u : Value} (r : AA x u) : Ly u = some x := by
 cases x with
 | non => cases r; rfl
 | bl _ => cases r; rfl
 | int _ => obtain ⟨t,rfl⟩ := r; rfl
 | str _ => obtain ⟨t,rfl⟩ := r; rfl
 | byt _ => obtain ⟨t,rfl⟩ := r; rfl
 | flt _ => obtain ⟨t,rfl⟩ := r; rfl
 | ref _ => cases r; rfl
 | ty _ => cases r; rfl
theorem AA.inj {x y : V} {u : Value} (r : AA x u) (q : AA y u) : x = y := Option.some.inj (r.abs.symm.trans q.abs)
theorem At.inj : ∀ {xs ys : List V} {us : List Value},At xs us -> At ys us -> xs = ys
 | _,_,_,.nil,.nil => rfl
 | _,_,_,.cons r t,.cons r' t' => by rw [r.inj r',At.inj t t']
section
variable {X : Cx} {pins : List (Addr × Obj)} {σ : St} {H : Hp} {s : Shared} {a : Addr} {xs ys : List V}
theorem An.of {K : PySem.W.Frag} (h : H a = some (.lst xs)) : An K H a xs := .inl (.inl h)
theorem Ac.of {K : PySem.W.Frag} (h : H a = some (.tup xs)) : Ac K H a xs := .inl (.inl h)
theorem Ae.list (I : Ae X pins σ H s) (h : An X.K H a xs) : ∃ its : List Value,At xs its /\ PlainL s.heap a its.toArray /\ xs.length <= sizeLine := by
 rcases h with h | ⟨o,its,n,hk,hc,hd,hs,hz,r⟩
 ·obtain ⟨z,its,n,r,e⟩ := h.ok I.hok
  exact ⟨its,r,⟨_,n,e,rfl,rfl,rfl⟩,z⟩
 ·refine ⟨its.toList,r,⟨o,n,I.kIn a o hk,hc,hd,by simpa using hs⟩,?_⟩
  have e := r.length
  simp only [Array.length_toList] at e
  omega
theorem Ae.tuple (I : Ae X pins σ H s) (h : Ac X.K H a xs) : ∃ its : List Value,At xs its /\ IsTup s.heap a its.toArray /\ xs.length <= sizeLine := by
 rcases h with h | ⟨o,its,n,hk,hc,hs,hz,r⟩
 ·obtain ⟨z,its,r,p⟩ := h.ok I.hok
  exact ⟨its,r,p,z⟩
 ·refine ⟨its.toList,r,⟨o,I.kIn a o hk,hc,n,by simpa using hs⟩,?_⟩
  have e := r.length
  simp only [Array.length_toList] at e
  omega
theorem Ae.list_inj (I : Ae X pins σ H s) (h : An X.K H a xs) (h' : An X.K H a ys) : xs = ys := by
 obtain ⟨its,r,⟨o,n,e,_,_,d⟩,_⟩ := I.list h
 obtain ⟨its',r',⟨o',n',e',_,_,d'⟩,_⟩ := I.list h'
 rw [e] at e'; cases e'
 rw [d] at d'
 injection d' with d1 _
 have : its = its' := by simpa using congrArg Array.toList d1
 subst this
 exact r.inj r'
theorem Ae.tuple_inj (I : Ae X pins σ H s) (h : Ac X.K H a xs) (h' : Ac X.K H a ys) : xs = ys := by
 obtain ⟨its,r,⟨o,e,_,n,d⟩,_⟩ := I.tuple h
 obtain ⟨its',r',⟨o',e',_,n',d'⟩,_⟩ := I.tuple h'
 rw [e] at e'; cases e'
 rw [d] at d'
 injection d' with d1 _
 have : its = its' := by simpa using congrArg Array.toList d1
 subst this
 exact r.inj r'
end
abbrev Cx.wish (X : Cx) (E : Value -> Shared -> Prop) : Cx := { X with xe := E }
abbrev Cx.nox (X : Cx) : Cx := X.wish fun _ _ => False
theorem Cx.Ok.wish {X : Cx} (ok : X.Ok) (E : Value -> Shared -> Prop) : (X.wish E).Ok :=
 ⟨ok.mod,ok.kind,ok.glob,ok.blt,ok.above,ok.inj,ok.has,ok.cab,ok.hd,ok.frames,ok.stk,ok.exf,ok.bs,ok.bsz,ok.noex,ok.exfs,ok.funs,ok.frf⟩
theorem Cx.Ok.unwish {X : Cx} {E : Value -> Shared -> Prop} (ok : (X.wish E).Ok) : X.Ok :=
 ⟨ok.mod,ok.kind,ok.glob,ok.blt,ok.above,ok.inj,ok.has,ok.cab,ok.hd,ok.frames,ok.stk,ok.exf,ok.bs,ok.bsz,ok.noex,ok.exfs,ok.funs,ok.frf⟩
section
variable {X : Cx} {pins : List (Addr × Obj)} {σ : St} {H : Hp} {s : Shared} {E : Value -> Shared -> Prop}
theorem Ae.wish (I : Ae X pins σ H s) (E : Value -> Shared -> Prop) : Ae (X.wish E) pins σ H s := ⟨I.ok.wish E,I.os,I.bare,I.base,I.loc,I.cell,I.free,I.freeC,I.pin,I.hok,I.len⟩
theorem Ae.unwish (I : Ae (X.wish E) pins σ H s) : Ae X pins σ H s := ⟨I.ok.unwish,I.os,I.bare,I.base,I.loc,I.cell,I.free,I.freeC,I.pin,I.hok,I.len⟩
theorem SP.unwish {D : Cq} {f : Flow} {s' : Shared} (h : SP (X.wish E) pins D f s') : SP X pins D f s' := by
 cases f with
 | next => obtain ⟨σ',H',I,q⟩ := h; exact ⟨σ',H',I.unwish,q⟩
 | brk => obtain ⟨σ',H',I,q⟩ := h; exact ⟨σ',H',I.unwish,q⟩
 | cont => obtain ⟨σ',H',I,q⟩ := h; exact ⟨σ',H',I.unwish,q⟩
 | ret u => obtain ⟨v,σ',H',I,r,q⟩ := h; exact ⟨v,σ',H',I.unwish,r,q⟩
theorem PSs.nox {st : List Stmt} {t : TS} (h : PSs X.nox st t) : PSs X st t := fun pins s σ H D I hw =>
 wpAny_mono (h pins s σ H D (I.wish _) hw) (fun _ _ q => q.unwish) fun _ _ z => False.elim z
end
section
variable {X : Cx} {st : Stmt} {rest : List Stmt} {t u : TS} {e : Expr} {te : TE} {pos : Pos}
def Lz : TS := fun D σ H => D.nx σ H
def LA (t u : TS) : TS := fun D σ H => t { D with nx := u D } σ H
theorem AT : PSs X [] Lz := fun _ _ σ H _ I h => wpAny_execs_nil ⟨σ,H,I,h⟩
theorem Aj (h1 : PS X st t) (h2 : PSs X rest u) : PSs X (st :: rest) (LA t u) := by
 intro pins s σ H D I h
 refine wpAny_execs_cons (Ao (h1 pins s σ H { D with nx := u D } I h) fun f s1 q => ?_)
 cases f with
 | next =>
  obtain ⟨σ',H',I',q⟩ := q
  exact h2 pins s1 σ' H' D I' q
 | ret v => exact q
 | brk => exact q
 | cont => exact q
theorem Am (h1 : PS X st t) : PSs X [st] t := by
 intro pins s σ H D I h
 refine wpAny_execs_cons (Ao (h1 pins s σ H D I h) fun f s1 q => ?_)
 cases f with
 | next => exact wpAny_execs_nil q
 | ret v => exact q
 | brk => exact q
 | cont => exact q
theorem Ae.quiet {pins : List (Addr × Obj)} {σ : St} {H : Hp} {s : Shared} (I : Ae X pins σ H s) : interactive X.env = false := by simp [interactive,I.ok.kind]
def LB (te : TE) : TS := fun D σ H => te σ H fun _ H1 => D.nx σ H1
theorem Bo (he : PE X e te) (hs : swapsWith e none pos.line X.env = pure false := by rfl) : PS X (.Expr e pos) (LB te) := by
 intro pins s σ H D I h
 exact wpAny_Expr_any (Ao (he pins s σ H _ I h) fun v s1 ⟨x,H1,I1,r1,q1⟩ => ⟨σ,H1,I1,q1⟩) I.quiet hs
def LC (te : TE) : TS := fun D σ H => te σ H D.rt
theorem As (he : PE X e te) : PS X (.Return (some e) pos) (LC te) := by
 intro pins s σ H D I h
 exact wpAny_Return_some (Ao (he pins s σ H _ I h) fun v s1 ⟨x,H1,I1,r1,q1⟩ => ⟨x,σ,H1,I1,r1,q1⟩)
def LD : TS := fun _ _ _ => False
theorem Dg : PS X st LD := fun _ _ _ _ _ _ h => h.elim
end
abbrev TG := V -> St -> Hp -> (St -> Hp -> Prop) -> Prop
abbrev Dh := List V -> St -> Hp -> (St -> Hp -> Prop) -> Prop
def PG (X : Cx) (target : Expr) (t : TG) : Prop :=
 ∀ (pins : List (Addr × Obj)) (s : Shared) (σ : St) (H : Hp) (v : V) (u : Value) (Q : St -> Hp -> Prop),Ae X pins σ H s -> AA v u -> t v σ H Q ->
  wpAny (model X.prog X.w) X.A (assign target X.env u) (fun _ s' => ∃ σ' H',Ae X pins σ' H' s' /\ Q σ' H') X.xe s
def Ex (X : Cx) (ts : List Expr) (t : Dh) : Prop :=
 ∀ (pins : List (Addr × Obj)) (s : Shared) (σ : St) (H : Hp) (vs : List V) (us : List Value) (Q : St -> Hp -> Prop),Ae X pins σ H s -> At vs us -> t vs σ H Q ->
  wpAny (model X.prog X.w) X.A (assignInOrder ((assignEach ts X.env).map (·.2)) us) (fun _ s' => ∃ σ' H',Ae X pins σ' H' s' /\ Q σ' H') X.xe s
abbrev Ey := V -> V -> V -> Hp -> (Hp -> Prop) -> Prop
def G5 (X : Cx) (t : Ey) : Prop :=
 ∀ (pins : List (Addr × Obj)) (s : Shared) (σ : St) (H : Hp) (o i v : V) (ov iv u : Value) (Q : Hp -> Prop),Ae X pins σ H s -> AA o ov -> AA i iv -> AA v u -> t o i v H Q ->
  wpAny (model X.prog X.w) X.A (setItem ov iv u) (fun _ s' => ∃ H',Ae X pins σ H' s' /\ Q H') X.xe s
abbrev DW := V -> V -> Hp -> VK -> Prop
def Fg (X : Cx) (op : Operator) (t : DW) : Prop :=
 ∀ (pins : List (Addr × Obj)) (s : Shared) (σ : St) (H : Hp) (x y : V) (v u : Value) (Q : VK),Ae X pins σ H s -> AA x v -> AA y u -> t x y H Q ->
  wpAny (model X.prog X.w) X.A (inplaceOp op v u) (EP X pins σ Q) X.xe s
section
variable {X : Cx} {pos : Pos}
def Di (i : Nat) : TG := fun v σ H Q => Q (σ.set i (some v)) H
theorem LE {x : Str} (hN : X.N.Nodup) (hi : X.N[i]? = some x) (hx : De X.env.scope x) (hf : X.fn x = true \/ X.env.scope.names.lookup x = some .local := by first | exact .inl rfl | exact .inr rfl | assumption) : PG X (.Name x pos) (Di i) := by
 intro pins s σ H v u Q I r h
 exact wpAny_assign_Name (Ew I hN hi hx r (fun s' I' => ⟨_,H,I',h⟩) hf)
def LF : Dh := fun vs σ H Q => vs = [] /\ Q σ H
def LG (t : TG) (u : Dh) : Dh := fun vs σ H Q => ∃ v r,vs = v :: r /\ t v σ H fun σ' H' => u r σ' H' Q
theorem AB : Ex X [] LF := by
 intro pins s σ H vs us Q I r h
 obtain ⟨e,h⟩ := h
 subst e
 cases r
 exact assignInOrder_nil ⟨σ,H,I,h⟩
theorem Ag {e : Expr} {es : List Expr} {t : TG} {u : Dh} (h1 : PG X e t) (h2 : Ex X es u)
  (hs : (assignEach (e :: es) X.env).map (·.2) = assign e X.env :: (assignEach es X.env).map (·.2) := by rfl) : Ex X (e :: es) (LG t u) := by
 intro pins s σ H vs us Q I r h
 obtain ⟨v,vr,e1,h⟩ := h
 subst e1
 cases r with
 | cons r rr =>
  rw [hs]
  refine assignInOrder_cons (Ao (h1 pins s σ H _ _ _ I r h) fun _ s1 ⟨σ1,H1,I1,q1⟩ => ?_)
  exact h2 pins s1 σ1 H1 _ _ Q I1 rr q1
def Ix (K : PySem.W.Frag) (n : Nat) (t : Dh) : TG := fun v σ H Q => ∃ a xs,v = .ref a /\ Ac K H a xs /\ xs.length = n /\ t xs σ H Q
theorem LH {es : List Expr} {k : Nat} {t : Dh} {n : Nat} (hc : X.calm = true) (h : Ex X es t)
  (hn : (assignEach es X.env).length = n := by rfl) (hst : (assignEach es X.env).findIdx? (·.1) = none := by rfl) : PG X (.Tuple es k pos) (Ix X.K n t) := by
 intro pins s σ H v u Q I r hw
 obtain ⟨a,xs,e1,hq,hl,hw⟩ := hw
 subst e1
 cases r
 obtain ⟨its,rv,ht,hz⟩ := I.tuple hq
 refine assign_Tuple_tuple (I.ok.hd hc) ht (by simp [hn,<- hl,rv.length]) hst fun h' hx => ?_
 have I1 : Ae X pins σ H { s with heap := h' } := I.kept (t' := s.toks) fun b o e => hx b o (Nat.ne_of_lt (Heap.lt_size e)) e
 exact h pins _ σ H xs _ Q I1 (by simpa using rv) hw
def LI (to ti : TE) (t : Ey) : TG := fun v σ H Q => to σ H fun o H1 => ti σ H1 fun i H2 => t o i v H2 fun H3 => Q σ H3
theorem Iy {o i : Expr} {to : TE} {t : Ey} (ho : PE X o to) (hi : PE X i ti) (hs : G5 X t)
  (ha : ∀ v, assign (.Subscript o i pos) X.env v = (do
   let ov <- holding [v] (eval o X.env)
   let iv <- holding [v,ov] (eval i X.env)
   standAt pos
   holding [v,ov,iv] (setItem ov iv v)
   release [v,ov,iv] []) := by intro _; rfl) : PG X (.Subscript o i pos) (LI to ti t) := by
 intro pins s σ H v u Q I r h
 rw [ha]
 refine wpAny_bind (wpAny_holding (Ao (ho pins s σ H _ I h) fun ov s1 ⟨x,H1,I1,r1,q1⟩ => ?_))
 refine wpAny_bind (wpAny_holding (Ao (hi pins s1 σ H1 _ I1 q1) fun iv s2 ⟨y,H2,I2,r2,q2⟩ => ?_))
 refine wpAny_bind (wpAny_standAt (wpAny_bind (wpAny_holding (Ao (hs pins s2 σ H2 x y v ov iv u _ I2 r1 r2 r q2) fun _ s3 ⟨H3,I3,q3⟩ => ?_))))
 exact wpAny_release ⟨σ,H3,I3,q3⟩
def Iz (te : TE) (g : TG) : TS := fun D σ H => te σ H fun x H1 => g x σ H1 D.nx
theorem AR {e : Expr} {te : TE} {g : TG} (he : PE X e te) (hg : PG X tg g) (hs : swapsWithSole [tg] e pos.line X.env = pure false := by rfl) (hw : swappedStores [tg] e X.env = pure none := by rfl)
  (h1 : (assignEach [tg] X.env).map (·.2) = [assign tg X.env] := by rfl) : PS X (.Assign [tg] e pos) (Iz te g) := by
 intro pins s σ H D I h
 refine wpAny_Assign_stores (Ao (he pins s σ H _ I h) fun v s1 ⟨x,H1,I1,r1,q1⟩ => ?_) hs hw
 rw [h1]
 exact Ao (hg pins s1 σ H1 x v _ I1 r1 q1) fun _ s2 q => q
theorem AE {x : Str} {e : Expr} {te : TE} (hN : X.N.Nodup) (hi : X.N[i]? = some x) (hx : De X.env.scope x) (he : PE X e te) (hs : swapsWith e (some (.Name x pos')) pos.line X.env = pure false := by rfl) (hf : X.fn x = true \/ X.env.scope.names.lookup x = some .local := by first | exact .inl rfl | exact .inr rfl | assumption) :
  PS X (.Assign [.Name x pos'] e pos) (Iz te (Di i)) := by
 intro pins s σ H D I h
 refine wpAny_Assign_Name (Ao (he pins s σ H _ I h) fun v s1 ⟨y,H1,I1,r1,q1⟩ => ?_) hs
 exact Ew I1 hN hi hx r1 (fun s2 I2 => ⟨_,H1,I2,q1⟩) hf
def LJ (i j : Nat) (ta : TA) : TS := fun D σ H => ta σ H fun vs H1 => ∃ v w,vs = [v,w] /\ D.nx ((σ.set i (some v)).set j (some w)) H1
theorem IA {j : Nat} {x y : Str} {a b : Expr} {ta : TA} {px py pt : Pos} {kt k2 pt2} (hc : X.calm = true) (hN : X.N.Nodup) (hi : X.N[i]? = some x) (hj : X.N[j]? = some y) (hij : i ≠ j)
  (hx : X.env.scope.names.lookup x = some .local) (hy : X.env.scope.names.lookup y = some .local) (ha : PA X [a,b] ta)
  (hw : swappedStores [.Tuple [.Name x px,.Name y py] kt pt] (.Tuple [a,b] k2 pt2) X.env = pure (some [x,y]))
  (hs : swapsWithSole [.Tuple [.Name x px,.Name y py] kt pt] (.Tuple [a,b] k2 pt2) pos.line X.env = pure false := by rfl) :
  PS X (.Assign [.Tuple [.Name x px,.Name y py] kt pt] (.Tuple [a,b] k2 pt2) pos) (LJ i j ta) := by
 intro pins s σ H D I h
 rw [exec_Assign_arm]
 refine wpAny_bind (wpAny_standAt ?_)
 rw [hs]
 refine wpAny_bind (wpAny_pure ?_)
 rw [if_neg (by decide)]
 refine wpAny_bind (Tuple_ (Ao (ha _ pins s σ H _ I h) fun us s1 ⟨vs,H1,I1,r1,q1⟩ => ?_))
 obtain ⟨v,w,e1,q1⟩ := q1
 subst e1
 obtain ⟨u1,u2,rfl,rv,rw'⟩ : ∃ u1 u2,us = [u1,u2] /\ AA v u1 /\ AA w u2 := by
  cases r1 with
  | cons p q =>
   cases q with
   | cons p' q' =>
    cases q'
    exact ⟨_,_,rfl,p,p'⟩
 refine wpAny_newObj_type ?_ (by show 2 <= sizeLine; decide)
 have I2 : Ae X pins σ H1 { s1 with heap := s1.heap.push { cls := .type "tuple",data := .seq [u1,u2].toArray } } := I1.kept (t' := s1.toks) fun b o e => Heap.get?_push_of_some _ e
 rw [hw]
 refine wpAny_bind (wpAny_pure ?_)
 show wpAny (model X.prog X.w) X.A (do rule "assign.swapped-stores"; let items <- unpackItems (.ref s1.heap.objs.size) 2 none; assignInOrder [fun v => bindName X.env y v,fun v => bindName X.env x v] items.reverse; pure Flow.next) _ _ _
 refine wpAny_bind (wpAny_rule (wpAny_bind (unpackItems_tuple (items := #[u1,u2]) (I.ok.hd hc) (IsTup.new s1.heap _) fun h' hx' => ?_)))
 have I3 := I2.kept (h' := h') (t' := s1.toks) fun b o e => hx' b o (Nat.ne_of_lt (Heap.lt_size e)) e
 show wpAny _ _ (assignInOrder [fun v => bindName X.env y v,fun v => bindName X.env x v] [u2,u1] >>= fun _ => pure Flow.next) _ _ _
 refine wpAny_bind (assignInOrder_cons (wpAny_bindName (Ew I3 hN hj (.inl hy) rw' (fun s2 I4 => ?_) (.inr hy))))
 refine assignInOrder_cons (wpAny_bindName (Ew I4 hN hi (.inl hx) rv (fun s3 I5 => assignInOrder_nil (wpAny_pure ?_)) (.inr hx)))
 rw [List.set_comm _ _ (Ne.symm hij)] at I5
 exact ⟨_,H1,I5,q1⟩
def LK (i : Nat) (te : TE) (ti : DW) : TS := fun D σ H => ∃ x,σ[i]? = some (some x) /\ te σ H fun y H1 => ti x y H1 fun z H2 => D.nx (σ.set i (some z)) H2
theorem IB {x : Str} {e : Expr} {te : TE} {ti : DW} (hN : X.N.Nodup) (hi : X.N[i]? = some x) (hx : De X.env.scope x) (he : PE X e te) (ho : Fg X op ti) (hf : X.fn x = true \/ X.env.scope.names.lookup x = some .local := by first | exact .inl rfl | exact .inr rfl | assumption) :
  PS X (.AugAssign (.Name x pos') op e pos) (LK i te ti) := by
 intro pins s σ H D I h
 obtain ⟨v,e1,h⟩ := h
 obtain ⟨m,hn,hl⟩ := I.loc
 have vis : DU X.env.scope x := by rcases hx with k | k; exact .inl k; exact .inr (.inl k)
 obtain ⟨u,r,l⟩ := hl i x v hi e1 vis
 refine wpAny_AugAssign_Name ?_
 have go : wpAny (model X.prog X.w) X.A (eval e X.env) (fun w s₂ => wpAny (model X.prog X.w) X.A (inplaceOp op u w) (fun r s₃ => wpAny (model X.prog X.w) X.A (storeName X.env x r) (fun _ => SP X pins D .next) X.xe s₃) X.xe s₂) X.xe s := by
  refine Ao (he pins s σ H _ I h) fun w s1 ⟨y,H1,I1,r1,q1⟩ => ?_
  refine Ao (ho pins s1 σ H1 v y u w _ I1 r r1 q1) fun z s2 ⟨zv,H2,I2,r2,q2⟩ => ?_
  exact Ew I2 hN hi hx r2 (fun s3 I3 => ⟨_,H2,I3,q2⟩) hf
 rcases l with ⟨hk,hm⟩ | ⟨hk,c,hc,hcell⟩
 ·exact wpAny_loadName_local I.ok.kind hk hn hm go
 ·rcases hk with hk | hk
  ·exact wpAny_loadName_cell I.ok.kind hk hc hcell go
  ·rcases hx with k | k
   ·have : X.env.scope.names.lookup x = some .free := hk
    rw [k] at this; cases this
   ·have : X.env.scope.names.lookup x = some .free := hk
    rw [k] at this; cases this
def LL (to ti te : TE) (tget : V -> V -> Hp -> VK -> Prop) (tip : DW) (tset : Ey) : TS := fun D σ H => to σ H fun o H1 => ti σ H1 fun i H2 => tget o i H2 fun x H3 => te σ H3 fun y H4 => tip x y H4 fun z H5 => tset o i z H5 fun H6 => D.nx σ H6
def IC (X : Cx) (t : V -> V -> Hp -> VK -> Prop) : Prop :=
 ∀ (pins : List (Addr × Obj)) (s : Shared) (σ : St) (H : Hp) (o i : V) (ov iv : Value) (Q : VK),Ae X pins σ H s -> AA o ov -> AA i iv -> t o i H Q ->
  wpAny (model X.prog X.w) X.A (getItem ov iv) (EP X pins σ Q) X.xe s
theorem ID {o i e : Expr} {to te : TE} {tget : V -> V -> Hp -> VK -> Prop} {tip : DW} {tset : Ey} {tpos : Pos} (ho : PE X o to) (hi : PE X i ti) (hg : IC X tget) (he : PE X e te) (hp : Fg X op tip) (hs : G5 X tset)
  (ha : ∀ ov iv new,augStore i ov iv new = (do holding [new,ov,iv] (setItem ov iv new); release [new,ov,iv] []; pure .next) := by intros; rfl) : PS X (.AugAssign (.Subscript o i tpos) op e pos) (LL to ti te tget tip tset) := by
 intro pins s σ H D I h
 refine wpAny_AugAssign_SubscriptAny (Ao (ho pins s σ H _ I h) fun ov s1 ⟨x1,H1,I1,r1,q1⟩ => ?_) ha
 refine Ao (hi pins s1 σ H1 _ I1 q1) fun iv s2 ⟨x2,H2,I2,r2,q2⟩ => ?_
 refine Ao (hg pins s2 σ H2 x1 x2 ov iv _ I2 r1 r2 q2) fun old s3 ⟨x3,H3,I3,r3,q3⟩ => ?_
 refine Ao (he pins s3 σ H3 _ I3 q3) fun v s4 ⟨x4,H4,I4,r4,q4⟩ => ?_
 refine Ao (hp pins s4 σ H4 x3 x4 old v _ I4 r3 r4 q4) fun new s5 ⟨x5,H5,I5,r5,q5⟩ => ?_
 exact Ao (hs pins s5 σ H5 x1 x2 x5 ov iv new _ I5 r1 r2 r5 q5) fun _ s6 ⟨H6,I6,q6⟩ => ⟨σ,H6,I6,q6⟩
def IE (f : Int -> Int -> Int) : DW := fun x y H Q => ∃ i j,x = .int i /\ y = .int j /\ Q (.int (f i j)) H
theorem G6 : Fg X .Add (IE fun i j => i + j) := by
 intro pins s σ H x y v u Q I r1 r2 h
 obtain ⟨i,j,e1,e2,q⟩ := h
 subst e1; subst e2
 obtain ⟨t,rfl⟩ := r1
 obtain ⟨t',rfl⟩ := r2
 exact iadd_int ⟨.int _,H,I.tok _,⟨_,rfl⟩,q⟩
theorem LM : Fg X .Sub (IE fun i j => i - j) := by
 intro pins s σ H x y v u Q I r1 r2 h
 obtain ⟨i,j,e1,e2,q⟩ := h
 subst e1; subst e2
 obtain ⟨t,rfl⟩ := r1
 obtain ⟨t',rfl⟩ := r2
 exact isub_int ⟨.int _,H,I.tok _,⟨_,rfl⟩,q⟩
end
section
variable {X : Cx} {pos : Pos}
def LN (c : TT) (tb : TS) : TS := fun D σ H => ∃ W : Nat -> St -> Hp -> Prop,(∃ m,W m σ H) /\ ∀ m σ H,W m σ H ->
 c σ H fun b H1 => if b = true then ∃ N : St -> Hp -> Prop,(∀ σ' H',N σ' H' -> ∃ m',m' < m /\ W m' σ' H') /\ tb { D with nx := N,ct := N,bk := D.nx } σ H1 else D.nx σ H1
theorem LO {c : Expr} {body : List Stmt} {tc : TT} {tb : TS} (hp : PassesOwn (model X.prog X.w) X.A X.env X.xe) (hc : PT X c tc) (hb : PSs X body tb) : PS X (.While c body [] pos) (LN tc tb) := by
 intro pins s σ H D I h
 obtain ⟨W,⟨m0,w0⟩,turn⟩ := h
 refine wpAny_While (codeAny_whileLoop (fun n s' => ∃ σ' H',Ae X pins σ' H' s' /\ W n σ' H') ?_ m0 ⟨σ,H,I,w0⟩)
 rintro n s1 ⟨σ1,H1,I1,w1⟩
 refine wpAny_passesOwn hp (Ao (hc pins s1 σ1 H1 _ I1 (turn n σ1 H1 w1)) fun b s2 ⟨H2,I2,q2⟩ => ?_)
 cases b with
 | true =>
  obtain ⟨N,hN,q2⟩ := q2
  rw [if_pos rfl]
  refine wpAny_passesOwn hp (Ao (hb pins s2 σ1 H2 _ I2 q2) fun f s3 q3 => ?_)
  cases f with
  | next =>
   obtain ⟨σ3,H3,I3,n3⟩ := q3
   obtain ⟨m',hm,w3⟩ := hN σ3 H3 n3
   exact ⟨m',hm,σ3,H3,I3,w3⟩
  | cont =>
   obtain ⟨σ3,H3,I3,n3⟩ := q3
   obtain ⟨m',hm,w3⟩ := hN σ3 H3 n3
   exact ⟨m',hm,σ3,H3,I3,w3⟩
  | brk => exact q3
  | ret v => exact q3
 | false =>
  rw [if_neg Bool.false_ne_true]
  exact wpAny_execs_nil ⟨σ1,H2,I2,q2⟩
end
structure It where
 go : Nat -> Hp -> Prop
 yld : Nat -> Hp -> V -> Hp -> Prop
 stop : Nat -> Hp -> Prop
def Bp (X : Cx) (pins : List (Addr × Obj)) (H : Hp) (b : Addr) : Prop :=
 H b = none /\ b ≠ X.env.locals /\ b ∉ X.fs /\ (b ∈ X.ex \/ X.s₀.heap.objs.size <= b) /\ (∀ x c,X.env.cells.lookup x = some c -> c ≠ b) /\ ∀ p ∈ X.pn ++ pins,p.1 ≠ b
theorem Ae.fpOk {X : Cx} {pins : List (Addr × Obj)} {σ : St} {H H' : Hp} {s : Shared} {b : Addr} (I : Ae X pins σ H s) (hb : s.heap.objs.size <= b) (hn : H' b = none) : Bp X pins H' b := by
 refine ⟨hn,Nat.ne_of_gt (Nat.lt_of_lt_of_le I.lt hb),I.nofs hb,.inr (Nat.le_trans I.sz hb),fun x c e z => ?_,fun p hp z => ?_⟩
 ·obtain ⟨v,q⟩ := I.cell x c e
  exact absurd (Nat.lt_of_lt_of_le q.lt (by rw [z]; exact hb)) (Nat.lt_irrefl _)
 ·exact absurd (Nat.lt_of_lt_of_le (Heap.lt_size (I.pin p hp).1) (by rw [z]; exact hb)) (Nat.lt_irrefl _)
structure CC (P : Program) (w : World) (K : PySem.W.Frag) (tg : Expr) (J : It) (fp : List Addr) (it : Addr) (tn : Nat -> Heap -> Prop) : Prop where
 mem : it ∈ fp
 obj : ∀ i h,tn i h -> ∀ b ∈ fp,∃ o,h.get? b = some o /\ ∀ v,o.data ≠ .cell v
 keep : ∀ i h h',tn i h -> (∀ b ∈ fp,∀ o,h.get? b = some o -> h'.get? b = some o) -> tn i h'
 item : ∀ (X : Cx),X.prog = P -> X.w = w -> X.K = K -> X.calm = true -> ∀ (i : Nat) (pins : List (Addr × Obj)) (s : Shared) (σ : St) (H : Hp) (E : Value -> Shared -> Prop),Ae X pins σ H s -> (∀ b ∈ fp,Bp X pins H b) -> tn i s.heap -> J.go i H ->
  wpAny (model P w) X.A (pyNext (.ref it)) (fun r s1 => ∃ u,r = some u /\
   wpAny (model P w) X.A (letOwnedTupleGo tg (.ref it) u) (fun _ s2 => ∃ x H',Ae X pins σ H' s2 /\ AA x u /\ J.yld i H x H' /\ tn (i + 1) s2.heap /\ ∀ b ∈ fp,H' b = none) E s1) E s
 done : ∀ (X : Cx),X.prog = P -> X.w = w -> X.K = K -> X.calm = true -> ∀ (i : Nat) (pins : List (Addr × Obj)) (s : Shared) (σ : St) (H : Hp) (E : Value -> Shared -> Prop),Ae X pins σ H s -> (∀ b ∈ fp,Bp X pins H b) -> tn i s.heap -> J.stop i H ->
  wpAny (model P w) X.A (pyNext (.ref it)) (fun r s1 => r = none /\ Ae X pins σ H s1) E s
 self : ∀ (A : Around) (i : Nat) (s : Shared) (Q : Value -> Shared -> Prop) (E : Value -> Shared -> Prop),tn i s.heap -> Q (.ref it) s -> wpAny (model P w) A (pyIter (.ref it)) Q E s
abbrev TI := St -> Hp -> (It -> Hp -> Prop) -> Prop
def IF (X : Cx) (pins : List (Addr × Obj)) (σ : St) (tg : Expr) (R : It -> Hp -> Prop) (itv : Value) (s2 : Shared) : Prop :=
 ∃ (it : Addr) (fp : List Addr) (tn : Nat -> Heap -> Prop) (J : It) (H' : Hp),itv = .ref it /\ Ae X pins σ H' s2 /\ CC X.prog X.w X.K tg J fp it tn /\ tn 0 s2.heap /\ (∀ b ∈ fp,Bp X pins H' b) /\ R J H'
def PI (X : Cx) (tg iter : Expr) (wi : TI) : Prop :=
 ∀ (pins : List (Addr × Obj)) (s : Shared) (σ : St) (H : Hp) (R : It -> Hp -> Prop),Ae X pins σ H s -> wi σ H R ->
  wpAny (model X.prog X.w) X.A (eval iter X.env) (fun v s1 => wpAny (model X.prog X.w) X.A (pyIter v) (IF X pins σ tg R) X.xe s1) X.xe s
theorem Fh {M : Model} {A : Around} {E : Value -> Shared -> Prop} {s : Shared} {tg : Expr} {it : Addr} {u : Value} {o : Obj} {n : String} {vs : Array Value} {Q : Unit -> Shared -> Prop} (ho : s.heap.get? it = some o) (hc : o.cls = .type n) (hd : o.data = .fields vs)
    (hn : ["enumerate","zip","dict_itemiterator","dict_reverseitemiterator","odict_iterator","itertools.zip_longest","itertools.pairwise"].contains n = false) (hQ : Q () s) : wpAny M A (letOwnedTupleGo tg (.ref it) u) Q E s := by
  unfold letOwnedTupleGo
  cases tg <;> first
    | exact wpAny_pure hQ
    | (cases u <;> first
        | exact wpAny_pure hQ
        | (refine wpAny_bind (wpAny_load ho ?_)
           rw [hc,hd]
           show wpAny M A (if (["enumerate","zip","dict_itemiterator","dict_reverseitemiterator","odict_iterator","itertools.zip_longest","itertools.pairwise"].contains n && vs[0]? == some (rawInt _)) = true then _ else _) Q E s
           rw [if_neg (by intro h; rw [hn,Bool.false_and] at h; cases h)]
           exact wpAny_pure hQ))
def DX (K : PySem.W.Frag) (a : Addr) : It :=
 ⟨fun i H => ∃ xs x,An K H a xs /\ xs[i]? = some x,fun i H x H' => H' = H /\ ∀ xs,An K H a xs -> xs[i]? = some x,fun i H => ∃ xs,An K H a xs /\ xs.length <= i⟩
def DA (K : PySem.W.Frag) (a : Addr) : It :=
 ⟨fun i H => ∃ xs x,Ac K H a xs /\ xs[i]? = some x,fun i H x H' => H' = H /\ ∀ xs,Ac K H a xs -> xs[i]? = some x,fun i H => ∃ xs,Ac K H a xs /\ xs.length <= i⟩
def CD (lo : Int) (n : Nat) : It := ⟨fun i _ => i < n,fun i H x H' => H' = H /\ x = .int (lo + i),fun i _ => n <= i⟩
theorem LP {w : World} {K : PySem.W.Frag} (a it : Addr) : CC P w K tg (DX K a) [it] it (fun i h => h.IsListIter it a i) where
 mem := by simp
 obj := fun i h st b hb => by
  have e : b = it := by simpa using hb
  subst e
  obtain ⟨o,e,c,d⟩ := st
  exact ⟨o,e,fun v z => by rw [d] at z; cases z⟩
 keep := fun i h h' st k => st.at fun o e => k it (by simp) o e
 item := by
  intro X hP hw hK hc i pins s σ H E I hf st hg
  subst hP hw hK
  obtain ⟨xs,x,hq,hx⟩ := hg
  obtain ⟨its,rv,p,hz⟩ := I.list hq
  obtain ⟨u,hu,ru⟩ := rv.get hx
  obtain ⟨f0,f1,f2,f3,f4,f5⟩ := hf it (by simp)
  refine wpAny_pyNext_list_item st p.isList (x := u) (by simpa using hu) fun h' st' sb => ?_
  have I1 : Ae X pins σ H { s with heap := h' } := I.turned (t' := s.toks) (fun b o hb e => (sb.2 b hb).trans e) f0 f1 f3 f4 f5
  obtain ⟨o,e,c,d⟩ := id st'
  exact ⟨u,rfl,Fh (s := { s with heap := h' }) e c d (by decide) ⟨x,H,I1,ru,⟨rfl,fun ys hy => by rw [I.list_inj hy hq]; exact hx⟩,st',fun b hb => (hf b hb).1⟩⟩
 done := by
  intro X hP hw hK hc i pins s σ H E I hf st hg
  subst hP hw hK
  obtain ⟨xs,hq,hx⟩ := hg
  obtain ⟨its,rv,p,hz⟩ := I.list hq
  obtain ⟨f0,f1,f2,f3,f4,f5⟩ := hf it (by simp)
  have hl := rv.length
  exact wpAny_pyNext_list_end (I.ok.hd hc) st p.isList (by simp; omega) fun h' eb => ⟨rfl,I.turned (t' := s.toks) (fun b o hb e => eb b o hb e) f0 f1 f3 f4 f5⟩
 self := fun _ _ _ _ _ st h => wpAny_pyIter_listiter st h
theorem LQ {w : World} {K : PySem.W.Frag} (a it : Addr) : CC P w K tg (DA K a) [it] it (fun i h => h.IsTupleIter it a i) where
 mem := by simp
 obj := fun i h st b hb => by
  have e : b = it := by simpa using hb
  subst e
  obtain ⟨o,e,c,d⟩ := st
  exact ⟨o,e,fun v z => by rw [d] at z; cases z⟩
 keep := fun i h h' st k => st.at fun o e => k it (by simp) o e
 item := by
  intro X hP hw hK hc i pins s σ H E I hf st hg
  subst hP hw hK
  obtain ⟨xs,x,hq,hx⟩ := hg
  obtain ⟨its,rv,p,hz⟩ := I.tuple hq
  obtain ⟨u,hu,ru⟩ := rv.get hx
  obtain ⟨f0,f1,f2,f3,f4,f5⟩ := hf it (by simp)
  refine wpAny_pyNext_tuple_item st (show s.heap.IsTuple a its.toArray from p) (x := u) (by simpa using hu) fun h' st' sb => ?_
  have I1 : Ae X pins σ H { s with heap := h' } := I.turned (t' := s.toks) (fun b o hb e => (sb.2 b hb).trans e) f0 f1 f3 f4 f5
  obtain ⟨o,e,c,d⟩ := id st'
  exact ⟨u,rfl,Fh (s := { s with heap := h' }) e c d (by decide) ⟨x,H,I1,ru,⟨rfl,fun ys hy => by rw [I.tuple_inj hy hq]; exact hx⟩,st',fun b hb => (hf b hb).1⟩⟩
 done := by
  intro X hP hw hK hc i pins s σ H E I hf st hg
  subst hP hw hK
  obtain ⟨xs,hq,hx⟩ := hg
  obtain ⟨its,rv,p,hz⟩ := I.tuple hq
  obtain ⟨f0,f1,f2,f3,f4,f5⟩ := hf it (by simp)
  have hl := rv.length
  exact wpAny_pyNext_tuple_end (I.ok.hd hc) st (show s.heap.IsTuple a its.toArray from p) (by simp; omega) fun h' eb => ⟨rfl,I.turned (t' := s.toks) (fun b o hb e => eb b o hb e) f0 f1 f3 f4 f5⟩
 self := fun _ _ _ _ _ st h => wpAny_pyIter_tupleiter st h
theorem LR {w : World} {K : PySem.W.Frag} (it : Addr) (lo : Int) (n : Nat) : CC P w K tg (CD lo n) [it] it (fun i h => IsRangeIter h it (lo + (i : Nat) * 1) ((n : Int) - (i : Nat)) 1) where
 mem := by simp
 obj := fun i h st b hb => by
  have e : b = it := by simpa using hb
  subst e
  exact ⟨_,st,fun v z => by
   have z' : Data.fields _ = Data.cell v := z
   cases z'⟩
 keep := fun i h h' st k => k it (by simp) _ st
 item := by
  intro X hP hw hK hc i pins s σ H E I hf st hg
  subst hP hw hK
  obtain ⟨f0,f1,f2,f3,f4,f5⟩ := hf it (by simp)
  have W := Walks.range (prog := X.prog) (w := X.w) (I.ok.hd hc) it lo 1 n
  refine W.item i s _ _ hg st fun v h' tk hv st' kk => ?_
  obtain ⟨t,rfl⟩ := hv
  have I1 : Ae X pins σ H { s with heap := h',toks := tk } := I.turned (fun b o hb e => kk b o (by simpa using hb) e) f0 f1 f3 f4 f5
  refine ⟨_,rfl,Fh (s := { s with heap := h',toks := tk }) (n := "range_iterator") st' rfl rfl (by decide) ⟨.int (lo + i),H,I1,⟨t,?_⟩,⟨rfl,rfl⟩,st',fun b hb => (hf b hb).1⟩⟩
  rw [Int.mul_one]
 done := by
  intro X hP hw hK hc i pins s σ H E I hf st hg
  subst hP hw hK
  obtain ⟨f0,f1,f2,f3,f4,f5⟩ := hf it (by simp)
  exact wpAny_pyNext_range_end (I.ok.hd hc) st (by have : n <= i := hg; omega) fun h' eb => ⟨rfl,I.turned (t' := s.toks) (fun b o hb e => eb b o hb e) f0 f1 f3 f4 f5⟩
 self := fun _ _ _ _ _ st h => wpAny_pyIter_rangeiter st h
end L2
namespace L2
open PySem PySem.Spec PyProof.Rows
variable {tl : TE} {pins : List (Addr × Obj)} {σ : St} {H : Hp} {s : Shared} {ta : TA} {p : Pos} {fp : List Addr} {h : Heap} {g : TG} {tb : TS} {xs : List V} {D : Cq}
section
variable {X : Cx} {tg : Expr}
def IG (K : PySem.W.Frag) (tl : TE) : TI := fun σ H R => tl σ H fun x H1 => ∃ a,x = .ref a /\ (∃ xs,An K H1 a xs) /\ R (DX K a) H1
def IH (K : PySem.W.Frag) (tl : TE) : TI := fun σ H R => tl σ H fun x H1 => ∃ a,x = .ref a /\ (∃ xs,Ac K H1 a xs) /\ R (DA K a) H1
theorem LS {l : Expr} (hl : PE X l tl) : PI X tg l (IG X.K tl) := by
 intro pins s σ H R I h
 refine Ao (hl pins s σ H _ I h) fun v s1 ⟨x,H1,I1,r1,q1⟩ => ?_
 obtain ⟨a,e,⟨xs,hq⟩,q⟩ := q1
 subst e
 cases r1
 obtain ⟨its,rv,p,hz⟩ := I1.list hq
 refine wpAny_pyIter_list p.isList ?_
 refine ⟨s1.heap.objs.size,[s1.heap.objs.size],_,_,H1,rfl,I1.kept (t' := s1.toks) fun b o e => Heap.get?_push_of_some _ e,LP a _,⟨_,Heap.get?_push_size _ rfl,rfl,rfl⟩,fun b hb => ?_,q⟩
 have e : b = s1.heap.objs.size := by simpa using hb
 subst e
 exact I1.fpOk (Nat.le_refl _) (I1.hok.fresh (Nat.le_refl _))
theorem LT {l : Expr} (hl : PE X l tl) : PI X tg l (IH X.K tl) := by
 intro pins s σ H R I h
 refine Ao (hl pins s σ H _ I h) fun v s1 ⟨x,H1,I1,r1,q1⟩ => ?_
 obtain ⟨a,e,⟨xs,hq⟩,q⟩ := q1
 subst e
 cases r1
 obtain ⟨its,rv,p,hz⟩ := I1.tuple hq
 refine wpAny_pyIter_tuple (show s1.heap.IsTuple a its.toArray from p) ?_
 refine ⟨s1.heap.objs.size,[s1.heap.objs.size],_,_,H1,rfl,I1.kept (t' := s1.toks) fun b o e => Heap.get?_push_of_some _ e,LQ a _,⟨_,Heap.get?_push_size _ rfl,rfl,rfl⟩,fun b hb => ?_,q⟩
 have e : b = s1.heap.objs.size := by simpa using hb
 subst e
 exact I1.fpOk (Nat.le_refl _) (I1.hok.fresh (Nat.le_refl _))
theorem II {R : It -> Hp -> Prop} {E : Value -> Shared -> Prop} {lo hi : Int} {t u v : Tok} {tk : Nat} (I : Ae X pins σ H s) (h1 : -(2 ^ 62) <= lo) (h2 : lo < 2 ^ 62) (h3 : -(2 ^ 62) <= hi) (h4 : hi < 2 ^ 62)
  (q : R (CD lo (hi - lo).toNat) H) : wpAny (model X.prog X.w) X.A (pyIter (.ref s.heap.objs.size)) (IF X pins σ tg R) E { s with heap := s.heap.push { cls := .type "range",data := .fields #[.int lo t,.int hi u,.int 1 v] },toks := tk } := by
 refine wpAny_pyIter_range (IsRange.new ..) (small_one h1 h2 h3 h4) ?_
 have I1 : Ae X pins σ H { s with heap := s.heap.push { cls := .type "range",data := .fields #[.int lo t,.int hi u,.int 1 v] },toks := tk } := I.kept fun b o e => Heap.get?_push_of_some _ e
 refine ⟨(s.heap.push { cls := .type "range",data := .fields #[.int lo t,.int hi u,.int 1 v] }).objs.size,[(s.heap.push { cls := .type "range",data := .fields #[.int lo t,.int hi u,.int 1 v] }).objs.size],_,_,H,rfl,
  I1.kept (t' := tk) fun b o e => Heap.get?_push_of_some _ e,LR _ lo (hi - lo).toNat,?_,fun b hb => ?_,q⟩
 ·have e1 : lo + ((0 : Nat) : Int) * 1 = lo := by simp
  have e2 : (((hi - lo).toNat : Nat) : Int) - ((0 : Nat) : Int) = Builtin.Range.rangeSize lo hi 1 := by rw [rangeSize_one]; split <;> omega
  show IsRangeIter _ _ (lo + ((0 : Nat) : Int) * 1) ((((hi - lo).toNat : Nat) : Int) - ((0 : Nat) : Int)) 1
  rw [e1,e2]
  exact Heap.get?_push_size _ rfl
 ·have e : b = (s.heap.push { cls := .type "range",data := .fields #[.int lo t,.int hi u,.int 1 v] }).objs.size := by simpa using hb
  subst e
  exact I1.fpOk (Nat.le_refl _) (I1.hok.fresh (Nat.le_refl _))
def LU (ta : TA) : TI := fun σ H R => ta σ H fun vs H1 => ∃ j : Int,vs = [.int j] /\ -(2 ^ 62) <= j /\ j < 2 ^ 62 /\ R (CD 0 j.toNat) H1
def LV (ta : TA) : TI := fun σ H R => ta σ H fun vs H1 => ∃ i j : Int,vs = [.int i,.int j] /\ (-(2 ^ 62) <= i /\ i < 2 ^ 62 /\ -(2 ^ 62) <= j /\ j < 2 ^ 62) /\ R (CD i (j - i).toNat) H1
theorem BN {a : Expr} {pos : Pos} (hg : Gl X "range") (hm : X.mg "range" = none) (ha : PA X [a] ta) (hs : starEach [a] X.env = [(false,eval a X.env)] := by rfl) : PI X tg (.Call (.Name "range" p) [a] [] pos) (LU ta) := by
 intro pins s σ H R I h
 refine Call_ (Cf I hg hm boot_range (PyProof.Rows.callWith_type1 (Ao (ha pos pins s σ H _ I h) fun us s1 ⟨vs,H1,I1,r1,q1⟩ => ?_) hs rfl))
 obtain ⟨j,e,q1,q2,q⟩ := q1
 subst e
 cases r1 with
 | cons r rr =>
  cases rr
  obtain ⟨t,rfl⟩ := r
  exact call_range_1 (II I1 (by omega) (by omega) q1 q2 (by simpa using q))
theorem IJ {a b : Expr} {pos : Pos} (hg : Gl X "range") (hm : X.mg "range" = none) (ha : PA X [a,b] ta) (hs : starEach [a,b] X.env = [(false,eval a X.env),(false,eval b X.env)] := by rfl) (hs2 : starEach [b] X.env = [(false,eval b X.env)] := by rfl) :
  PI X tg (.Call (.Name "range" p) [a,b] [] pos) (LV ta) := by
 intro pins s σ H R I h
 refine Call_ (Cf I hg hm boot_range (PyProof.Rows.callWith_type1 (Ao (ha pos pins s σ H _ I h) fun us s1 ⟨vs,H1,I1,r1,q1⟩ => ?_) (by rw [hs,hs2]) (by rw [hs2]; rfl)))
 obtain ⟨i,j,e,⟨q1,q2,q3,q4⟩,q⟩ := q1
 subst e
 cases r1 with
 | cons r rr =>
  cases rr with
  | cons r' rr =>
   cases rr
   obtain ⟨t,rfl⟩ := r
   obtain ⟨t',rfl⟩ := r'
   exact call_range_2 (II I1 q1 q2 q3 q4 q)
def LW (wi : TI) (g : TG) (tb : TS) : TS := fun D σ H => wi σ H fun J H1 => ∃ W : Nat -> Nat -> St -> Hp -> Prop,(∃ m,W 0 m σ H1) /\ ∀ i m σ H,W i m σ H ->
 (J.stop i H /\ D.nx σ H) \/ (J.go i H /\ ∃ N : St -> Hp -> Prop,(∀ σ' H',N σ' H' -> ∃ m',m' < m /\ W (i + 1) m' σ' H') /\ ∀ x H',J.yld i H x H' -> g x σ H' fun σ2 H2 => tb { D with nx := N,ct := N,bk := D.nx } σ2 H2)
def Ct (fp : List Addr) (h : Heap) : List (Addr × Obj) := fp.filterMap fun b => (h.get? b).map fun o => (b,o)
theorem DY {b : Addr} {o : Obj} (hb : b ∈ fp) (e : h.get? b = some o) : (b,o) ∈ Ct fp h := List.mem_filterMap.mpr ⟨b,hb,by rw [e]; rfl⟩
theorem G7 {p : Addr × Obj} (hp : p ∈ Ct fp h) : p.1 ∈ fp /\ h.get? p.1 = some p.2 := by
 obtain ⟨b,hb,e⟩ := List.mem_filterMap.mp hp
 cases q : h.get? b with
 | none => rw [q] at e; cases e
 | some o =>
  rw [q] at e
  have e' : (b,o) = p := Option.some.inj e
  subst e'
  exact ⟨hb,q⟩
theorem Ae.pinned (I : Ae X pins σ H s) (hf : ∀ b ∈ fp,Bp X pins H b) (ho : ∀ b ∈ fp,∃ o,s.heap.get? b = some o /\ ∀ v,o.data ≠ .cell v) : Ae X (pins ++ Ct fp s.heap) σ H s :=
 I.pins_of fun p hp => (List.mem_append.mp hp).elim (fun z => I.pin p (List.mem_append_right _ z)) fun z => by
  obtain ⟨hb,e⟩ := G7 z
  obtain ⟨f0,f1,f2,_⟩ := hf p.1 hb
  obtain ⟨o,e',d⟩ := ho p.1 hb
  rw [e] at e'; cases e'
  exact ⟨e,f0,f1,f2,d⟩
theorem Ae.unpinned {pl : List (Addr × Obj)} (I : Ae X (pins ++ pl) σ H s) : Ae X pins σ H s := I.pins_of fun p hp => I.pin p (List.mem_append_right _ (List.mem_append_left _ hp))
theorem BG {iter : Expr} {body : List Stmt} {wi : TI} {pos : Pos} (hp : PassesOwn (model X.prog X.w) X.A X.env X.xe) (hc : X.calm = true) (hi : PI X tg iter wi) (hg : PG X tg g) (hb : PSs X body tb)
  (hs : ∀ x,foldedSetIterable iter X.env x = pure x := by intro _; rfl) : PS X (.For tg iter body [] pos) (LW wi g tb) := by
 intro pins s σ H D I h
 refine wpAny_For (Ao (hi pins s σ H _ I h) fun v s1 h1 => Ao h1 fun itv s2 h2 => ?_) hs
 obtain ⟨it,fp,tn,J,H2,e,I2,T,st2,f2,W,⟨m0,w0⟩,turn⟩ := h2
 subst e
 -- what stays true of the iterator's objects through the loop
 have stat : ∀ {H' : Hp},(∀ b ∈ fp,H' b = none) -> ∀ b ∈ fp,Bp X pins H' b := fun hn b hb => ⟨hn b hb,(f2 b hb).2⟩
 refine codeAny_forLoop_any (fun n s' => ∃ i σ' H',Ae X pins σ' H' s' /\ tn i s'.heap /\ (∀ b ∈ fp,H' b = none) /\ W i n σ' H') ?_ m0 ⟨0,σ,H2,I2,st2,fun b hb => (f2 b hb).1,w0⟩
 rintro n s3 ⟨i,σ3,H3,I3,st3,fr3,w3⟩
 rcases turn i n σ3 H3 w3 with ⟨stop,qn⟩ | ⟨go,N,hN,step⟩
 ·refine wpAny_passesOwn hp (Ao (T.done X rfl rfl rfl hc i pins s3 σ3 H3 X.xe I3 (stat fr3) st3 stop) fun r s4 ⟨hr,I4⟩ => ?_)
  subst hr
  exact wpAny_execs_nil ⟨σ3,H3,I4,qn⟩
 ·refine wpAny_passesOwn hp (Ao (T.item X rfl rfl rfl hc i pins s3 σ3 H3 X.xe I3 (stat fr3) st3 go) fun r s4 ⟨u,hr,h4⟩ => ?_)
  subst hr
  refine wpAny_passesOwn hp (Ao h4 fun _ s5 ⟨x,H5,I5,r5,y5,st5,fr5⟩ => ?_)
  have I5' := I5.pinned (stat fr5) (T.obj _ _ st5)
  refine wpAny_passesOwn hp (Ao (hg _ s5 σ3 H5 x u _ I5' r5 (step x H5 y5)) fun _ s6 ⟨σ6,H6,I6,q6⟩ => ?_)
  refine wpAny_passesOwn hp (Ao (hb _ s6 σ6 H6 _ I6 q6) fun f s7 q7 => ?_)
  have again : ∀ {σ7 : St} {H7 : Hp},Ae X (pins ++ Ct fp s5.heap) σ7 H7 s7 -> N σ7 H7 -> ∃ m,m < n /\ ∃ i σ' H',Ae X pins σ' H' s7 /\ tn i s7.heap /\ (∀ b ∈ fp,H' b = none) /\ W i m σ' H' := fun {σ7 H7} I7 n7 => by
   obtain ⟨m',hm,w7⟩ := hN σ7 H7 n7
   refine ⟨m',hm,i + 1,σ7,H7,I7.unpinned,T.keep _ _ _ st5 fun b hb o e => (I7.pin (b,o) (List.mem_append_right _ (List.mem_append_right _ (DY hb e)))).1,fun b hb => ?_,w7⟩
   obtain ⟨o,e,d⟩ := T.obj _ _ st5 b hb
   exact (I7.pin (b,o) (List.mem_append_right _ (List.mem_append_right _ (DY hb e)))).2.1
  cases f with
  | next => obtain ⟨σ7,H7,I7,n7⟩ := q7; exact again I7 n7
  | cont => obtain ⟨σ7,H7,I7,n7⟩ := q7; exact again I7 n7
  | brk => obtain ⟨σ7,H7,I7,q7⟩ := q7; exact ⟨σ7,H7,I7.unpinned,q7⟩
  | ret v => obtain ⟨x7,σ7,H7,I7,r7,q7⟩ := q7; exact ⟨x7,σ7,H7,I7.unpinned,r7,q7⟩
end
theorem LX {K : PySem.W.Frag} {a : Addr} (Pv : Nat -> St -> Hp -> Prop) (h0 : Pv 0 σ H) (hl : ∀ i σ H,i <= xs.length -> Pv i σ H -> An K H a xs)
  (hs : ∀ i x σ H,xs[i]? = some x -> Pv i σ H -> g x σ H fun σ2 H2 => tb { D with nx := Pv (i + 1),ct := Pv (i + 1),bk := D.nx } σ2 H2) (hd : ∀ σ H,Pv xs.length σ H -> D.nx σ H) :
  ∃ W : Nat -> Nat -> St -> Hp -> Prop,(∃ m,W 0 m σ H) /\ ∀ i m σ H,W i m σ H ->
   ((DX K a).stop i H /\ D.nx σ H) \/ ((DX K a).go i H /\ ∃ N : St -> Hp -> Prop,(∀ σ' H',N σ' H' -> ∃ m',m' < m /\ W (i + 1) m' σ' H') /\ ∀ x H',(DX K a).yld i H x H' -> g x σ H' fun σ2 H2 => tb { D with nx := N,ct := N,bk := D.nx } σ2 H2) := by
 refine ⟨fun i m σ H => m = xs.length - i /\ i <= xs.length /\ Pv i σ H,⟨xs.length,by simp,Nat.zero_le _,h0⟩,?_⟩
 rintro i m σ H ⟨rfl,hi,p⟩
 have q := hl i σ H hi p
 by_cases hlt : i < xs.length
 ·refine .inr ⟨⟨xs,xs[i],q,by simp [hlt]⟩,Pv (i + 1),fun σ' H' p' => ⟨xs.length - (i + 1),by omega,rfl,hlt,p'⟩,fun x H' y => ?_⟩
  obtain ⟨e,y⟩ := y
  subst e
  exact hs i x σ _ (y xs q) p
 ·have e : i = xs.length := by omega
  subst e
  exact .inl ⟨⟨xs,q,Nat.le_refl _⟩,hd σ H p⟩
theorem LY {K : PySem.W.Frag} {a : Addr} (Pv : Nat -> St -> Hp -> Prop) (h0 : Pv 0 σ H) (hl : ∀ i σ H,i <= xs.length -> Pv i σ H -> Ac K H a xs)
  (hs : ∀ i x σ H,xs[i]? = some x -> Pv i σ H -> g x σ H fun σ2 H2 => tb { D with nx := Pv (i + 1),ct := Pv (i + 1),bk := D.nx } σ2 H2) (hd : ∀ σ H,Pv xs.length σ H -> D.nx σ H) :
  ∃ W : Nat -> Nat -> St -> Hp -> Prop,(∃ m,W 0 m σ H) /\ ∀ i m σ H,W i m σ H ->
   ((DA K a).stop i H /\ D.nx σ H) \/ ((DA K a).go i H /\ ∃ N : St -> Hp -> Prop,(∀ σ' H',N σ' H' -> ∃ m',m' < m /\ W (i + 1) m' σ' H') /\ ∀ x H',(DA K a).yld i H x H' -> g x σ H' fun σ2 H2 => tb { D with nx := N,ct := N,bk := D.nx } σ2 H2) := by
 refine ⟨fun i m σ H => m = xs.length - i /\ i <= xs.length /\ Pv i σ H,⟨xs.length,by simp,Nat.zero_le _,h0⟩,?_⟩
 rintro i m σ H ⟨rfl,hi,p⟩
 have q := hl i σ H hi p
 by_cases hlt : i < xs.length
 ·refine .inr ⟨⟨xs,xs[i],q,by simp [hlt]⟩,Pv (i + 1),fun σ' H' p' => ⟨xs.length - (i + 1),by omega,rfl,hlt,p'⟩,fun x H' y => ?_⟩
  obtain ⟨e,y⟩ := y
  subst e
  exact hs i x σ _ (y xs q) p
 ·have e : i = xs.length := by omega
  subst e
  exact .inl ⟨⟨xs,q,Nat.le_refl _⟩,hd σ H p⟩
theorem Cg {lo : Int} {n : Nat} (Pv : Nat -> St -> Hp -> Prop) (h0 : Pv 0 σ H)
  (hs : ∀ i σ H,i < n -> Pv i σ H -> g (.int (lo + i)) σ H fun σ2 H2 => tb { D with nx := Pv (i + 1),ct := Pv (i + 1),bk := D.nx } σ2 H2) (hd : ∀ σ H,Pv n σ H -> D.nx σ H) :
  ∃ W : Nat -> Nat -> St -> Hp -> Prop,(∃ m,W 0 m σ H) /\ ∀ i m σ H,W i m σ H ->
   ((CD lo n).stop i H /\ D.nx σ H) \/ ((CD lo n).go i H /\ ∃ N : St -> Hp -> Prop,(∀ σ' H',N σ' H' -> ∃ m',m' < m /\ W (i + 1) m' σ' H') /\ ∀ x H',(CD lo n).yld i H x H' -> g x σ H' fun σ2 H2 => tb { D with nx := N,ct := N,bk := D.nx } σ2 H2) := by
 refine ⟨fun i m σ H => m = n - i /\ i <= n /\ Pv i σ H,⟨n,by simp,Nat.zero_le _,h0⟩,?_⟩
 rintro i m σ H ⟨rfl,hi,p⟩
 by_cases hlt : i < n
 ·refine .inr ⟨hlt,Pv (i + 1),fun σ' H' p' => ⟨n - (i + 1),by omega,rfl,hlt,p'⟩,fun x H' y => ?_⟩
  obtain ⟨e,y⟩ := y
  subst e y
  exact hs i σ _ hlt p
 ·have e : i = n := by omega
  subst e
  exact .inl ⟨Nat.le_refl _,hd σ H p⟩
end L2
namespace L2
open PySem PySem.Spec PyProof.Rows
variable {g : Int -> Int -> Int} {i j : Int} {us : List Value}
abbrev R2 := V -> V -> Hp -> VK -> Prop
def OpR (X : Cx) (f : Value -> Value -> Sem Value) (r : R2) : Prop :=
 ∀ (pins : List (Addr × Obj)) (s : Shared) (σ : St) (H : Hp) (x y : V) (v u : Value) (Q : VK),Ae X pins σ H s -> AA x v -> AA y u -> r x y H Q ->
  wpAny (model X.prog X.w) X.A (f v u) (EP X pins σ Q) X.xe s
def G8 (X : Cx) (f : Value -> Sem Value) (r : V -> Hp -> VK -> Prop) : Prop :=
 ∀ (pins : List (Addr × Obj)) (s : Shared) (σ : St) (H : Hp) (x : V) (v : Value) (Q : VK),Ae X pins σ H s -> AA x v -> r x H Q ->
  wpAny (model X.prog X.w) X.A (f v) (EP X pins σ Q) X.xe s
def Bx (X : Cx) (f : Value) (r : List V -> Hp -> VK -> Prop) : Prop :=
 ∀ (pins : List (Addr × Obj)) (s : Shared) (σ : St) (H : Hp) (xs : List V) (us : List Value) (Q : VK),Ae X pins σ H s -> At xs us -> r xs H Q ->
  wpAny (model X.prog X.w) X.A (call f us) (EP X pins σ Q) X.xe s
def Fi (r : R2) (ta tb : TE) : TE := fun σ H Q => ta σ H fun x H1 => tb σ H1 fun y H2 => r x y H2 Q
def LZ (r : V -> Hp -> VK -> Prop) (ta : TE) : TE := fun σ H Q => ta σ H fun x H1 => r x H1 Q
def rI (C : Int -> Int -> Prop) (g : Int -> Int -> V) : R2 := fun x y H Q => ∃ i j,x = .int i /\ y = .int j /\ C i j /\ Q (g i j) H
def CF (g : Int -> Int -> V) : R2 := fun x y H Q => ∃ i j,x = .int i /\ y = .int j /\ Q (g i j) H
def rU (g : Int -> V) : V -> Hp -> VK -> Prop := fun x H Q => ∃ i,x = .int i /\ Q (g i) H
section
variable {X : Cx} {a b c : Expr} {ta tb tc : TE} {pos : Pos}
theorem G9 (ha : PE X a ta) (hb : PE X b tb) {pins : List (Addr × Obj)} {s : Shared} {σ : St} {H : Hp} {R : V -> V -> Hp -> Prop} (I : Ae X pins σ H s)
  (h : ta σ H fun x H1 => tb σ H1 fun y H2 => R x y H2) {Q : Value -> Shared -> Prop} {f : Value -> Value -> Sem Value}
  (hf : ∀ v u s2 x y H2,Ae X pins σ H2 s2 -> AA x v -> AA y u -> R x y H2 -> wpAny (model X.prog X.w) X.A (f v u) Q X.xe s2) :
  wpAny (model X.prog X.w) X.A (eval a X.env) (fun v s₁ => wpAny (model X.prog X.w) X.A (eval b X.env) (fun u s₂ => wpAny (model X.prog X.w) X.A (f v u) Q X.xe s₂) X.xe s₁) X.xe s := by
 refine Ao (ha pins s σ H _ I h) fun v s1 ⟨x,H1,I1,r1,q1⟩ => ?_
 refine Ao (hb pins s1 σ H1 _ I1 q1) fun u s2 ⟨y,H2,I2,r2,q2⟩ => ?_
 exact hf v u s2 x y H2 I2 r1 r2 q2
theorem Aq {op : Operator} {r : R2} (ho : OpR X (binaryOp op) r) (ha : PE X a ta) (hb : PE X b tb) : PE X (.BinOp a op b pos) (Fi r ta tb) := by
 intro pins s σ H Q I h
 exact wpAny_BinOp (G9 ha hb I h fun v u s2 x y H2 I2 rx ry q => ho pins s2 σ H2 x y v u Q I2 rx ry q)
theorem L0 {op : UnaryOp} {r : V -> Hp -> VK -> Prop} (ho : G8 X (unaryOp op) r) (ha : PE X a ta) : PE X (.UnaryOp op a pos) (LZ r ta) := by
 intro pins s σ H Q I h
 exact UnaryOp_ (Ao (ha pins s σ H _ I h) fun v s1 ⟨x,H1,I1,r1,q1⟩ => ho pins s1 σ H1 x v Q I1 r1 q1)
theorem Fj {f : Value -> Value -> Sem Value} {C : Int -> Int -> Prop}
  (rule : ∀ (i j : Int) (t u : Tok) (s : Shared) (Q : Value -> Shared -> Prop) (E : Value -> Shared -> Prop),C i j -> Q (.int (g i j) s.toks) { s with toks := s.toks + 1 } -> wpAny (model X.prog X.w) X.A (f (.int i t) (.int j u)) Q E s) :
  OpR X f (rI C fun i j => .int (g i j)) := by
 intro pins s σ H x y v u Q I rx ry h
 obtain ⟨i,j,rfl,rfl,hc,q⟩ := h
 obtain ⟨t,rfl⟩ := rx
 obtain ⟨t',rfl⟩ := ry
 exact rule i j t t' s _ _ hc ⟨.int (g i j),H,I.tok _,⟨_,rfl⟩,q⟩
theorem IK {f : Value -> Value -> Sem Value}
  (rule : ∀ (i j : Int) (t u : Tok) (s : Shared) (Q : Value -> Shared -> Prop) (E : Value -> Shared -> Prop),Q (.int (g i j) s.toks) { s with toks := s.toks + 1 } -> wpAny (model X.prog X.w) X.A (f (.int i t) (.int j u)) Q E s) :
  OpR X f (CF fun i j => .int (g i j)) := by
 intro pins s σ H x y v u Q I rx ry h
 obtain ⟨i,j,rfl,rfl,q⟩ := h
 obtain ⟨t,rfl⟩ := rx
 obtain ⟨t',rfl⟩ := ry
 exact rule i j t t' s _ _ ⟨.int (g i j),H,I.tok _,⟨_,rfl⟩,q⟩
theorem Fk {f : Value -> Value -> Sem Value} {g : Int -> Int -> Bool}
  (rule : ∀ (i j : Int) (t u : Tok) (s : Shared) (Q : Value -> Shared -> Prop) (E : Value -> Shared -> Prop),Q (.bool (g i j)) s -> wpAny (model X.prog X.w) X.A (f (.int i t) (.int j u)) Q E s) :
  OpR X f (CF fun i j => .bl (g i j)) := by
 intro pins s σ H x y v u Q I rx ry h
 obtain ⟨i,j,rfl,rfl,q⟩ := h
 obtain ⟨t,rfl⟩ := rx
 obtain ⟨t',rfl⟩ := ry
 exact rule i j t t' s _ _ ⟨.bl (g i j),H,I,rfl,q⟩
def Ha (i j : Int) : Prop := 0 < j /\ j < 1073741824
def IL (i j : Int) : Prop := 0 <= j /\ j <= 1000000 /\ i.natAbs < 2 ^ 64
def CMul (i j : Int) : Prop := (-(2 ^ 64) < i /\ i < 2 ^ 64) \/ (-(2 ^ 64) < j /\ j < 2 ^ 64)
theorem CMul.ok (h : CMul i j) : IntMulOk i j := by
 rcases h with ⟨h1,h2⟩ | ⟨h1,h2⟩
 ·exact .of_left (intBits_le_64 h1 h2)
 ·exact .of_right (intBits_le_64 h1 h2)
theorem op_add : OpR X (binaryOp .Add) (CF fun i j => .int (i + j)) := IK fun _ _ _ _ _ _ _ q => add_int q
theorem op_sub : OpR X (binaryOp .Sub) (CF fun i j => .int (i - j)) := IK fun _ _ _ _ _ _ _ q => sub_int q
theorem op_mul : OpR X (binaryOp .Mult) (rI CMul fun i j => .int (i * j)) := Fj fun _ _ _ _ _ _ _ hc q => mul_int q hc.ok
theorem op_fdiv : OpR X (binaryOp .FloorDiv) (rI Ha fun i j => .int (i / j)) := Fj fun i j _ _ _ _ _ hc q => by
 have h1 : (0 : Int) < j := hc.1
 have h2 : j < 1073741824 := hc.2
 exact floordiv_int (by omega) (by rw [Int.fdiv_eq_ediv_of_nonneg i (by omega)]; exact q) (.inl (PyProof.noPylong_small (by omega)))
theorem op_mod : OpR X (binaryOp .Mod) (rI (fun _ j => 0 < j) fun i j => .int (i % j)) := Fj fun i j _ _ _ _ _ hc q => by
 have h1 : (0 : Int) < j := hc
 exact mod_int' (by omega) (by rw [Int.fmod_eq_emod_of_nonneg i (by omega)]; exact q)
theorem op_pow : OpR X (binaryOp .Pow) (rI IL fun i j => .int (i ^ j.toNat)) := Fj fun _ _ _ _ _ _ _ hc q => pow_int_small hc.1 hc.2.1 hc.2.2 q
theorem L1 {f : Value -> Sem Value} {g : Int -> Int}
  (rule : ∀ (i : Int) (t : Tok) (s : Shared) (Q : Value -> Shared -> Prop) (E : Value -> Shared -> Prop),Q (.int (g i) s.toks) { s with toks := s.toks + 1 } -> wpAny (model X.prog X.w) X.A (f (.int i t)) Q E s) :
  G8 X f (rU fun i => .int (g i)) := by
 intro pins s σ H x v Q I rx h
 obtain ⟨i,rfl,q⟩ := h
 obtain ⟨t,rfl⟩ := rx
 exact rule i t s _ _ ⟨.int (g i),H,I.tok _,⟨_,rfl⟩,q⟩
theorem L3 : G8 X (unaryOp .USub) (rU fun i => .int (-i)) := L1 fun _ _ _ _ _ q => neg_int q
end
def IM : V -> V -> Bool
 | .non,.non => true | .non,.int _ => true | .int _,.non => true | .non,.bl _ => true | .bl _,.non => true | .non,.str _ => true | .str _,.non => true
 | .int _,.int _ => true | .bl _,.bl _ => true | .str _,.str _ => true | .byt _,.byt _ => true
 | .int _,.str _ => true | .str _,.int _ => true | .bl _,.str _ => true | .str _,.bl _ => true
 | _,_ => false
def L4 : R2 := fun x y H Q => IM x y = true /\ Q (.bl (decide (x = y))) H
def L5 : R2 := fun x y H Q => IM x y = true /\ Q (.bl (!decide (x = y))) H
theorem Cu : decide (V.int i = V.int j) = (i == j) := by
 rw [Bool.eq_iff_iff]
 simp
theorem IN {i j : Bool} : decide (V.bl i = V.bl j) = (i == j) := by
 rw [Bool.eq_iff_iff]
 simp
theorem IO {i j : Str} : decide (V.str i = V.str j) = (i == j) := by
 rw [Bool.eq_iff_iff]
 simp
theorem IP {i j : Array UInt8} : decide (V.byt i = V.byt j) = (i.toList == j.toList) := by
 rw [Bool.eq_iff_iff]
 cases i
 cases j
 simp
section
variable {X : Cx} {a b c : Expr} {ta tb tc : TE} {pos : Pos}
theorem AS {pins : List (Addr × Obj)} {σ : St} {H : Hp} {s : Shared} {Q : VK} {k k' : Bool} (I : Ae X pins σ H s) (q : Q (.bl k) H) (e : k = k') : EP X pins σ Q (.bool k') s := by
 subst e
 exact ⟨.bl k,H,I,rfl,q⟩
theorem CG : OpR X (compareOp .Eq) L4 := by
 intro pins s σ H x y v u Q I rx ry h
 obtain ⟨hs,q⟩ := h
 cases x with
 | non =>
  cases rx
  cases y with
  | non => cases ry; exact PySem.EqNone.eq_none_none (AS I q (by simp))
  | bl j => cases ry; exact PySem.EqNone.eq_none_bool (AS I q (by simp))
  | int j => obtain ⟨t',rfl⟩ := ry; exact PySem.EqNone.eq_none_int (AS I q (by simp))
  | str j => obtain ⟨t',rfl⟩ := ry; exact PySem.EqNone.eq_none_str (AS I q (by simp))
  | _ => exact absurd (show false = true from hs) Bool.false_ne_true
 | bl i =>
  cases rx
  cases y with
  | non => cases ry; exact PySem.EqNone.eq_bool_none (AS I q (by simp))
  | bl j => cases ry; exact eq_bool (AS I q IN)
  | str j => obtain ⟨t',rfl⟩ := ry; exact PySem.EqMixed.eq_bool_str (AS I q (by simp))
  | _ => exact absurd (show false = true from hs) Bool.false_ne_true
 | int i =>
  obtain ⟨t,rfl⟩ := rx
  cases y with
  | non => cases ry; exact PySem.EqNone.eq_int_none (AS I q (by simp))
  | int j => obtain ⟨t',rfl⟩ := ry; exact eq_int (AS I q Cu)
  | str j => obtain ⟨t',rfl⟩ := ry; exact PySem.EqMixed.eq_int_str (AS I q (by simp))
  | _ => exact absurd (show false = true from hs) Bool.false_ne_true
 | str i =>
  obtain ⟨t,rfl⟩ := rx
  cases y with
  | non => cases ry; exact PySem.EqNone.eq_str_none (AS I q (by simp))
  | bl j => cases ry; exact PySem.EqMixed.eq_str_bool (AS I q (by simp))
  | int j => obtain ⟨t',rfl⟩ := ry; exact PySem.EqMixed.eq_str_int (AS I q (by simp))
  | str j => obtain ⟨t',rfl⟩ := ry; exact eq_str (AS I q IO)
  | _ => exact absurd (show false = true from hs) Bool.false_ne_true
 | byt i =>
  obtain ⟨t,rfl⟩ := rx
  cases y with
  | byt j => obtain ⟨t',rfl⟩ := ry; exact PySem.W.eq_bytes (AS I q IP)
  | _ => exact absurd (show false = true from hs) Bool.false_ne_true
 | _ => cases y <;> exact absurd (show false = true from hs) Bool.false_ne_true
theorem Fl : OpR X (compareOp .NotEq) L5 := by
 intro pins s σ H x y v u Q I rx ry h
 obtain ⟨hs,q⟩ := h
 cases x with
 | non =>
  cases rx
  cases y with
  | non => cases ry; exact PySem.EqNone.ne_none_none (AS I q (by simp))
  | bl j => cases ry; exact PySem.EqNone.ne_none_bool (AS I q (by simp))
  | int j => obtain ⟨t',rfl⟩ := ry; exact PySem.EqNone.ne_none_int (AS I q (by simp))
  | str j => obtain ⟨t',rfl⟩ := ry; exact PySem.EqNone.ne_none_str (AS I q (by simp))
  | _ => exact absurd (show false = true from hs) Bool.false_ne_true
 | bl i =>
  cases rx
  cases y with
  | non => cases ry; exact PySem.EqNone.ne_bool_none (AS I q (by simp))
  | bl j => cases ry; exact ne_bool (AS I q (congrArg not IN))
  | str j => obtain ⟨t',rfl⟩ := ry; exact PySem.EqMixed.ne_bool_str (AS I q (by simp))
  | _ => exact absurd (show false = true from hs) Bool.false_ne_true
 | int i =>
  obtain ⟨t,rfl⟩ := rx
  cases y with
  | non => cases ry; exact PySem.EqNone.ne_int_none (AS I q (by simp))
  | int j => obtain ⟨t',rfl⟩ := ry; exact ne_int (AS I q (congrArg not Cu))
  | str j => obtain ⟨t',rfl⟩ := ry; exact PySem.EqMixed.ne_int_str (AS I q (by simp))
  | _ => exact absurd (show false = true from hs) Bool.false_ne_true
 | str i =>
  obtain ⟨t,rfl⟩ := rx
  cases y with
  | non => cases ry; exact PySem.EqNone.ne_str_none (AS I q (by simp))
  | bl j => cases ry; exact PySem.EqMixed.ne_str_bool (AS I q (by simp))
  | int j => obtain ⟨t',rfl⟩ := ry; exact PySem.EqMixed.ne_str_int (AS I q (by simp))
  | str j => obtain ⟨t',rfl⟩ := ry; exact ne_str (AS I q (congrArg not IO))
  | _ => exact absurd (show false = true from hs) Bool.false_ne_true
 | byt i =>
  obtain ⟨t,rfl⟩ := rx
  cases y with
  | byt j => obtain ⟨t',rfl⟩ := ry; exact PySem.W.ne_bytes (AS I q (congrArg not IP))
  | _ => exact absurd (show false = true from hs) Bool.false_ne_true
 | _ => cases y <;> exact absurd (show false = true from hs) Bool.false_ne_true
theorem op_lt : OpR X (compareOp .Lt) (CF fun i j => .bl (decide (i < j))) := Fk fun _ _ _ _ _ _ _ q => lt_int q
theorem op_le : OpR X (compareOp .LtE) (CF fun i j => .bl (decide (i <= j))) := Fk fun _ _ _ _ _ _ _ q => le_int q
theorem op_gt : OpR X (compareOp .Gt) (CF fun i j => .bl (decide (j < i))) := Fk fun _ _ _ _ _ _ _ q => gt_int q
theorem op_ge : OpR X (compareOp .GtE) (CF fun i j => .bl (decide (j <= i))) := Fk fun _ _ _ _ _ _ _ q => ge_int q
theorem Fm : OpR X (compareOp .Is) (fun x y H Q => y = .non /\ Q (.bl (decide (x = .non))) H) := by
  intro pins s σ H x y v u Q I rx ry h
  obtain ⟨rfl,q⟩ := h
  cases ry
  refine is_none_gen (AS I q ?_)
  cases x <;> first
    | (cases rx; rfl)
    | (obtain ⟨t,rfl⟩ := rx; rfl)
theorem Ez : OpR X (compareOp .IsNot) (fun x y H Q => y = .non /\ Q (.bl (!decide (x = .non))) H) := by
  intro pins s σ H x y v u Q I rx ry h
  obtain ⟨rfl,q⟩ := h
  cases ry
  refine isnot_none_gen (AS I q ?_)
  cases x <;> first
    | (cases rx; rfl)
    | (obtain ⟨t,rfl⟩ := rx; rfl)
theorem AL (b : Expr) {op : CmpOp} (h : op ≠ .In := by decide) (h2 : op ≠ .NotIn := by decide) : behindInMarks op b = false := by
 have e1 : (op == CmpOp.In) = false := by cases op <;> first | rfl | exact absurd rfl h
 have e2 : (op == CmpOp.NotIn) = false := by cases op <;> first | rfl | exact absurd rfl h2
 cases b <;> simp [behindInMarks,e1,e2]
theorem Cv {op : CmpOp} {r : R2} (ho : OpR X (compareOp op) r) (ha : PE X a ta) (hb : PE X b tb) (hm : behindInMarks op b = false) : PE X (.Compare a [op] [b] pos) (Fi r ta tb) := by
 intro pins s σ H Q I h
 exact wpAny_Compare1 (G9 ha hb I h fun v u s2 x y H2 I2 rx ry q => ho pins s2 σ H2 x y v u Q I2 rx ry q) hm
theorem L6 {xs : List V} {its : List Value} (r : At xs its) : (!its.toArray.isEmpty) = !xs.isEmpty := by
 cases r <;> simp
theorem EA : (sizeLine : Nat) < 2 ^ 63 := by rw [sizeLine_eq]; decide
theorem EB {x : V} (r : At [x] us) : ∃ u,us = [u] /\ AA x u := by
 cases r with
 | cons r1 r2 => cases r2; exact ⟨_,rfl,r1⟩
theorem Fo {x y : V} (r : At [x,y] us) : ∃ u w',us = [u,w'] /\ AA x u /\ AA y w' := by
 cases r with
 | cons r1 r2 =>
  cases r2 with
  | cons r3 r4 => cases r4; exact ⟨_,_,rfl,r1,r3⟩
theorem Hc (hc : X.calm = true) : Bx X (.builtin "max") (fun xs H Q => ∃ i j,xs = [.int i,.int j] /\ Q (.int (if j > i then j else i)) H) := by
 intro pins s σ H xs us Q I r h
 obtain ⟨i,j,rfl,q⟩ := h
 obtain ⟨u,w',rfl,⟨t,rfl⟩,⟨t',rfl⟩⟩ := Fo r
 refine max_two_ints (I.ok.hd hc) fun h' tk k => ⟨_,H,I.kept k,?_,q⟩
 by_cases hj : j > i
 ·rw [if_pos hj,if_pos hj]; exact ⟨_,rfl⟩
 ·rw [if_neg hj,if_neg hj]; exact ⟨_,rfl⟩
theorem Hd (hc : X.calm = true) : Bx X (.builtin "min") (fun xs H Q => ∃ i j,xs = [.int i,.int j] /\ Q (.int (if j < i then j else i)) H) := by
 intro pins s σ H xs us Q I r h
 obtain ⟨i,j,rfl,q⟩ := h
 obtain ⟨u,w',rfl,⟨t,rfl⟩,⟨t',rfl⟩⟩ := Fo r
 refine min_two_ints (I.ok.hd hc) fun h' tk k => ⟨_,H,I.kept k,?_,q⟩
 by_cases hj : j < i
 ·rw [if_pos hj,if_pos hj]; exact ⟨_,rfl⟩
 ·rw [if_neg hj,if_neg hj]; exact ⟨_,rfl⟩
theorem He : Bx X (.type "int") (fun xs H Q => (∃ i,xs = [.int i] /\ Q (.int i) H) \/ ∃ k,xs = [.bl k] /\ Q (.int (if k then 1 else 0)) H) := by
 intro pins s σ H xs us Q I r h
 rcases h with ⟨i,rfl,q⟩ | ⟨k,rfl,q⟩
 ·obtain ⟨u,rfl,t,rfl⟩ := EB r
  exact call_int_int ⟨.int i,H,I,⟨_,rfl⟩,q⟩
 ·obtain ⟨u,rfl,r1⟩ := EB r
  cases r1
  exact call_int_bool ⟨.int (if k then 1 else 0),H,I.tok _,⟨_,rfl⟩,q⟩
theorem L7 : Bx X (.builtin "divmod") (fun xs H Q => ∃ i j,xs = [.int i,.int j] /\ Ha i j /\ ∀ p,H p = none -> Q (.ref p) (upd H p (.tup [.int (i / j),.int (i % j)]))) := by
 intro pins s σ H xs us Q I r h
 obtain ⟨i,j,rfl,⟨h1,h2⟩,q⟩ := h
 obtain ⟨u,w',rfl,⟨t,rfl⟩,⟨t',rfl⟩⟩ := Fo r
 refine divmod_int (by omega) ?_ (.inl (PyProof.noPylong_small (by omega)))
 rw [Int.fdiv_eq_ediv_of_nonneg i (by omega),Int.fmod_eq_emod_of_nonneg i (by omega)]
 have hn : H s.heap.objs.size = none := I.hok.fresh (Nat.le_refl _)
 refine ⟨.ref s.heap.objs.size,_,?_,rfl,q _ hn⟩
 refine I.laid (fun b o e => Heap.get?_push_of_some _ e) (Nat.le_refl _) ⟨by simp only [List.length_cons,List.length_nil]; rw [sizeLine_eq]; decide,[.int (i / j) s.toks,.int (i % j) (s.toks + 1)],.cons ⟨_,rfl⟩ (.cons ⟨_,rfl⟩ .nil),?_⟩
 exact ⟨_,Heap.get?_push_size s.heap rfl,rfl,0,rfl⟩
end
end L2
namespace L2
open PySem PySem.Spec PyProof.Rows
structure ObjM (h : Heap) (x dx C : Addr) (mA : Str -> Option Value) : Prop where
 obj : h.get? x = some (PySem.W.instObj C dx)
 ns : h.Ns1 dx mA
 ne : dx ≠ x
section
variable {prog : Program} {w : World} {A : Around} {E : Value -> Shared -> Prop} {s : Shared} {K : PySem.W.Frag} {x dx C f : Addr} {mA : Str -> Option Value} {name : Str} {v : Value}
end
section
variable {P : Program} {w : World} {H H' : Hp} {h h' : Heap} {a C dx : Addr} {fs fs' : List (Str × V)}
end
structure L8 (K : PySem.W.Frag) (C : Addr) : Prop where
 pg : PySem.W.plainGet K C Str.empty = true
 hd : PySem.W.hasDictIn K C = true
 po : PySem.W.plainOver K C = true
 sa : PySem.W.findIn K (.ref C) "__setattr__" = some (some (.builtin "object.__setattr__"))
structure Con (K : PySem.W.Frag) (C : Addr) (f : Str) (v : V) (u : Value) : Prop where
 at_ : PySem.W.findIn K (.ref C) f = some (some u)
 rel : AA v u
 get : PySem.W.specialIn K u "__get__" = some none
 cp : PySem.W.copiedNames.contains f = false
structure Meth (K : PySem.W.Frag) (C : Addr) (m : Str) (f : Addr) : Prop where
 at_ : PySem.W.findIn K (.ref C) m = some (some (.ref f))
 fn : PySem.W.isFn K (.ref f) = true
 kp : PySem.W.keepIn K (.ref f) = true
section
variable {X : Cx} {pins : List (Addr × Obj)} {σ : St} {H : Hp} {s : Shared} {a C dx : Addr} {fs : List (Str × V)} {f : Str} {v : V} {A : Around} {E : Value -> Shared -> Prop}
end
section
variable {X : Cx} {o e value : Expr} {f : Str} {pos pos' tpos : Pos} {ta tv : TE}
end
section
variable {X : Cx} {pins : List (Addr × Obj)} {σ : St} {H : Hp} {s : Shared} {A : Around} {E : Value -> Shared -> Prop} {Q : Value -> Shared -> Prop} {c : Value} {b : Bool}
inductive Cw (K : PySem.W.Frag) (H : Hp) : V -> Value -> Prop where
 | non : Cw K H .non (.type "NoneType")
 | bl (x : Bool) : Cw K H (.bl x) (.type "bool")
 | int (i : Int) : Cw K H (.int i) (.type "int")
 | str (x : Str) : Cw K H (.str x) (.type "str")
 | flt (x : UInt64) : Cw K H (.flt x) (.type "float")
 | lst {a : Addr} {xs : List V} (e : H a = some (.lst xs)) : Cw K H (.ref a) (.type "list")
 | frz {a : Addr} {o : Obj} {xs : List V} (e : H a = some (.frz o (.lst xs))) : Cw K H (.ref a) (.type "list")
 | tup {a : Addr} {xs : List V} (e : H a = some (.tup xs)) : Cw K H (.ref a) (.type "tuple")
 | dK {a : Addr} {kvs : List (AO × V)} (e : H a = some (.dK kvs)) : Cw K H (.ref a) (.type "dict")
 | dT {a : Addr} {kvs : List (List AO × V)} (e : H a = some (.dT kvs)) : Cw K H (.ref a) (.type "dict")
 | ins {a C dx : Addr} {fs : List (Str × V)} (e : H a = some (.ins C dx fs)) (cl : L8 K C) (ha : PySem.W.findIn K (.ref C) "__class__" = some (some (.builtin "object.__class__")))
   (hn : PySem.W.specialIn K (.builtin "object.__class__") "__get__" = some (some (.builtin "getset_descriptor.__get__"))) (htk : PySem.W.takesIn K (.builtin "object.__class__") = some true)
   (hm : PySem.W.mroIn K C (.type "object") = some true) : Cw K H (.ref a) (.ref C)
end
end L2
namespace L2
open PySem PySem.Spec PyProof.Rows
variable {Q : VK} {us : List Value} {vs : List V} {P : Program} {kindOf : Str -> Option NameKind} {qual : Str} {scope : Scope}
structure Be (k : Nat) (A : Around) : Prop where
 hd : A.handled = none
 dp : A.depth + 3 * k + 5 < recursionLimit
 un : A.units + 16 * k + 200 < cLine
 gd : A.guards = some []
theorem Be.mono {j k : Nat} {A : Around} (r : Be k A) (h : j <= k) : Be j A := ⟨r.hd,by have := r.dp; omega,by have := r.un; omega,r.gd⟩
theorem Be.deeper {k : Nat} {A : Around} (r : Be (k + 1) A) (env : Env) : Be k (A.deeper env) :=
 ⟨r.hd,by have := r.dp; show A.depth + 1 + 3 * k + 5 < _; omega,by have := r.un; show A.units + 3 + 16 * k + 200 < _; omega,r.gd⟩
theorem Be.depth {k : Nat} {A : Around} (r : Be k A) : A.depth < recursionLimit := by have := r.dp; omega
theorem Be.units0 {k : Nat} {A : Around} (r : Be k A) : A.units < cLine := by have := r.un; omega
def CH : TA := fun _ H Q => Q [] H
def Bi (ta : TE) (tr : TA) : TA := fun σ H Q => ta σ H fun x H1 => tr σ H1 fun xs H2 => Q (x :: xs) H2
section
variable {X : Cx} {e : Expr} {es : List Expr} {te : TE} {t : TA} {pos : Pos}
theorem Ch : PA X [] CH := fun _ _ _ _ H Q I h => Calls.spliced_nil ⟨[],H,I,.nil,h⟩
theorem Fp (ha : PE X e te) (hr : PA X es t) (hs : starEach (e :: es) X.env = (false,eval e X.env) :: starEach es X.env := by rfl) : PA X (e :: es) (Bi te t) := by
 intro pos pins s σ H Q I h
 rw [hs]
 show wpAny _ _ (spliced ((false,eval e X.env) :: backTo pos (starEach es X.env))) _ _ s
 refine Calls.spliced_cons (Ao (ha pins s σ H _ I h) fun u s1 ⟨x,H1,I1,r1,q1⟩ => ?_)
 exact Ao (hr pos pins s1 σ H1 _ I1 q1) fun us s2 ⟨xs,H2,I2,r2,q2⟩ => ⟨x :: xs,H2,I2,.cons r1 r2,q2⟩
end
abbrev Sp := List V -> Hp -> VK -> XK -> Prop
abbrev B7 := List Env -> Hp -> Shared -> XK -> Value -> Shared -> Prop
structure DZ (P : Program) (w : World) (K : PySem.W.Frag) (mg : Str -> Option Value) (base : Heap) (A : Around) (outer : List Env) (s : Shared) (H : Hp) : Prop where
 frames : A.frames = some outer
 mod : Mod K mg base
 bs : ∀ b o,base.get? b = some o -> s.heap.get? b = some o /\ H b = none
 bsz : base.objs.size <= s.heap.objs.size
 funs : s.heap.FunFrames base outer
 frf : ∀ b ∈ Bq outer,H b = none
 hok : HOk P w H s.heap
 bare : AllBare s.gens
def CE (outer : List Env) (P : Program) (w : World) (H : Hp) (s : Shared) (Q : VK) (u : Value) (s' : Shared) : Prop :=
 ∃ v H',s'.os = s.os /\ AllBare s'.gens /\ Un (Bq outer) [] H H' s.heap s'.heap /\ HOk P w H' s'.heap /\ AA v u /\ Q v H'
def CR (CX : B7) (outer : List Env) (P : Program) (w : World) (H : Hp) (s : Shared) (Q : VK) (E : XK) (r : Result) (s' : Shared) : Prop :=
 match r with
 | .ok (.ret u) => CE outer P w H s Q u s'
 | .ok _ => False
 | .error e => CX outer H s E e s'
structure Cy (P : Program) (w : World) (K : PySem.W.Frag) (mg : Str -> Option Value) (base : Heap) (CX : B7) (k : Nat) (f : Addr) (fd : FuncData) (ps : List Str) (sp : Sp) : Prop where
 len : ∀ vs H Q E,sp vs H Q E -> vs.length = ps.length
 run : ∀ (A : Around) (outer : List Env) (s : Shared) (H : Hp) (args : Args) (us : List Value) (vs : List V) (Q : VK) (E : XK),Be k A -> DZ P w K mg base A outer s H -> BindsTo s fd args (ps.zip us) -> At vs us -> sp vs H Q E ->
  codeAny (model P w) A (.call (.ref f) args) (CR CX outer P w H s Q E) s
section
variable {X : Cx} {pins : List (Addr × Obj)} {σ : St} {H : Hp} {s s' : Shared}
theorem Ae.env0 (I : Ae X pins σ H s) : DZ X.prog X.w X.K X.mg X.base X.A X.stack s H :=
 ⟨I.ok.frames,I.ok.mod,I.bs,Nat.le_trans I.ok.bsz I.sz,I.stack,I.stkFree,I.hok,I.bare⟩
theorem Ae.after {u : Value} (I : Ae X pins σ H s) (h : CE X.stack X.prog X.w H s Q u s') : EP X pins σ Q u s' := by
 obtain ⟨v,H',os,bare,un,hok,r,q⟩ := h
 obtain ⟨hh,g,d,t,os'⟩ := s'
 obtain rfl : os' = s.os := os
 exact ⟨v,H',I.call (h' := hh) (g' := g) (d' := d) (t' := t) (ch := []) un hok bare (fun b z => absurd z (by simp)),r,q⟩
end
def Mb (sp : Sp) (dvs : List V) (E : XK) (t : TA) : TE := fun σ H Q => t σ H fun vs H1 => sp (vs ++ dvs) H1 Q E
def Binds (K : PySem.W.Frag) (fd : FuncData) (ps : List Str) (ds : List Value) : Prop :=
 ∀ (s : Shared) (us : List Value),K.In s.heap -> (us ++ ds).length = ps.length -> BindsTo s fd ⟨us,[]⟩ (ps.zip (us ++ ds))
theorem Binds.all {K : PySem.W.Frag} {fd : FuncData} {ps : List Str} (h : ∀ us : List Value,us.length = ps.length -> bindArgs fd ⟨us,[]⟩ = pure (ps.zip us)) : Binds K fd ps [] := fun s us _ hl => by
 rw [List.append_nil] at hl ⊢
 exact .of_eq (h us hl)
def Hf (CX : B7) (X : Cx) (E : XK) : Prop := ∀ (pins : List (Addr × Obj)) (σ : St) (H : Hp) (s : Shared) (e : Value) (s' : Shared),Ae X pins σ H s -> CX X.stack H s E e s' -> X.xe e s'
section
variable {X : Cx} {CX : B7} {k : Nat} {f C : Addr} {fd : FuncData} {ps : List Str} {sp : Sp} {dvs : List V} {ds : List Value} {E : XK} {x m : Str} {p pos apos : Pos} {e o : Expr} {es : List Expr} {ta : TE} {t : TA}
theorem Mc {pins : List (Addr × Obj)} {σ : St} {H : Hp} {s : Shared} (F : Cy X.prog X.w X.K X.mg X.base CX k f fd ps sp) (hr : Be k X.A) (hb : Binds X.K fd ps ds) (hd : At dvs ds) (hx : Hf CX X E)
  (I : Ae X pins σ H s) (r : At vs us) (h : sp (vs ++ dvs) H Q E) : wpAny (model X.prog X.w) X.A (call (.ref f) us) (EP X pins σ Q) X.xe s := by
 have r2 : At (vs ++ dvs) (us ++ ds) := r.append hd
 have hl : (us ++ ds).length = ps.length := by rw [<- r2.length]; exact F.len _ _ _ _ h
 refine wpAny_call (codeAny_mono (F.run X.A X.stack s H ⟨us,[]⟩ (us ++ ds) (vs ++ dvs) Q E hr I.env0 (hb s us I.kIn hl) r2 h) fun r s' hq => ?_)
 cases r with
 | error e => exact hx pins σ H s e s' I hq
 | ok fl =>
  cases fl with
  | ret u => exact I.after hq
  | next => exact False.elim hq
  | brk => exact False.elim hq
  | cont => exact False.elim hq
theorem Md (F : Cy X.prog X.w X.K X.mg X.base CX k f fd ps sp) (hr : Be k X.A) (hg : Gl X x) (hm : X.mg x = some (.ref f)) (hk : PySem.W.keepIn X.K (.ref f) = true) (hb : Binds X.K fd ps ds) (hd : At dvs ds) (hx : Hf CX X E)
  (ha : PA X (e :: es) t) (hdb : (x == ("__debug__" : Str)) = false := by decide) (he : starEach (e :: es) X.env = (false,eval e X.env) :: starEach es X.env := by rfl) (hpl : (backTo pos (starEach es X.env)).any (·.1) = false := by rfl) :
  PE X (.Call (.Name x p) (e :: es) [] pos) (Mb sp dvs E t) := by
 intro pins s σ H Q I h
 refine wpAny_Call_Name_kw (Iw I hg hm ?_ hdb)
 refine PySem.W.callWith_K (h₀ := X.base) I.ok.mod.kin hk (Ao (ha pos pins s σ H _ I h) fun us s1 ⟨vs,H1,I1,r,q⟩ => ⟨I1.kIn,?_⟩) he hpl
 exact Mc F hr hb hd hx I1 r q
structure Mk (K : PySem.W.Frag) (C f : Addr) : Prop where
 makes : PySem.W.makesIn K C = true
 init : PySem.W.findIn K (.ref C) "__init__" = some (some (.ref f))
 fn : PySem.W.isFn K (.ref f) = true
 kp : PySem.W.keepIn K (.ref C) = true
end
def PK (X : Cx) (kws : List Keyword) (t : TA) : Prop :=
 ∀ (pos : Pos) (pins : List (Addr × Obj)) (s : Shared) (σ : St) (H : Hp) (Q : List V -> Hp -> Prop),Ae X pins σ H s -> t σ H Q -> wpAny (model X.prog X.w) X.A (evalAll ((backToKw pos (keywordEach kws X.env)).map (·.2))) (AP X pins σ Q) X.xe s
section
variable {X : Cx} {CX : B7} {k : Nat} {f C : Addr} {fd : FuncData} {ps ks : List Str} {sp : Sp} {E : XK} {x m : Str} {p pos apos kpos : Pos} {e o : Expr} {es : List Expr} {kws : List Keyword} {te ta : TE} {t tk : TA} {nm : Option Str}
theorem Me : PK X [] CH := fun _ _ _ _ H Q I h => wpAny_evalAll_nil ⟨[],H,I,.nil,h⟩
theorem Mf (ha : PE X e te) (hr : PK X kws t) : PK X (⟨nm,e,kpos⟩ :: kws) (Bi te t) := by
 intro pos pins s σ H Q I h
 show wpAny _ _ (evalAll ((do let v <- eval e X.env; standAt pos; pure v) :: (backToKw pos (keywordEach kws X.env)).map (·.2))) _ _ s
 refine wpAny_evalAll_cons (wpAny_bind (Ao (ha pins s σ H _ I h) fun u s1 ⟨x,H1,I1,r1,q1⟩ => wpAny_bind (wpAny_standAt (wpAny_pure ?_))))
 exact Ao (hr pos pins s1 σ H1 _ I1 q1) fun us s2 ⟨xs,H2,I2,r2,q2⟩ => ⟨x :: xs,H2,I2,.cons r1 r2,q2⟩
structure KBinds (K : PySem.W.Frag) (fd : FuncData) (ps ks : List Str) (g : List Value -> List Value -> List Value) (gV : List V -> List V -> List V) : Prop where
 to : ∀ (s : Shared) (us ws : List Value),K.In s.heap -> (g us ws).length = ps.length -> BindsTo s fd ⟨us,ks.zip ws⟩ (ps.zip (g us ws))
 rel : ∀ {vs : List V} {us : List Value} {zs : List V} {ws : List Value},At vs us -> At zs ws -> At (gV vs zs) (g us ws)
variable {g : List Value -> List Value -> List Value} {gV : List V -> List V -> List V}
end
structure Av (N P : List Str) (sc : Scope) : Prop where
 kind : sc.kind = .function
 co : sc.isCoroutine = false
 gen : sc.isGenerator = false
 nd : N.Nodup
 pre : N.take P.length = P
 par : ∀ x ∈ P,sc.names.lookup x = some .local \/ sc.names.lookup x = some .cell
 nofree : ∀ y ∈ sc.names,y.2 ≠ .free
theorem Ax {N P : List Str} {sc : Scope} (a : sc.kind = .function := by rfl) (b : sc.isCoroutine = false := by rfl) (c : sc.isGenerator = false := by rfl) (d : N.Nodup := by decide +kernel) (e : N.take P.length = P := by rfl) (f : ∀ x ∈ P,sc.names.lookup x = some .local \/ sc.names.lookup x = some .cell := by decide +kernel) (g : ∀ y ∈ sc.names,y.2 ≠ .free := by decide +kernel) : Av N P sc := ⟨a,b,c,d,e,f,g⟩
theorem IQ {x : Str} : ∀ {binds : List (Str × Value)} {m : Str -> Option Value},(∀ v,(x,v) ∉ binds) -> bindL kindOf binds m x = m x
  | [],_,_ => rfl
  | (n, v) :: r, m, h => by
    unfold bindL
    rw [IQ fun w hw => h w (List.mem_cons_of_mem _ hw)]
    split
    . have : x ≠ n := by rintro rfl; exact h v List.mem_cons_self
      simp [this]
    . rfl
theorem IR {x : Str} : ∀ {binds : List (Str × Value)} {m : Str -> Option Value},(∀ v,(x,v) ∉ binds) -> bindC kindOf binds m x = m x
  | [],_,_ => rfl
  | (n, v) :: r, m, h => by
    unfold bindC
    rw [IR fun w hw => h w (List.mem_cons_of_mem _ hw)]
    split
    . rfl
    . have : x ≠ n := by rintro rfl; exact h v List.mem_cons_self
      simp [this]
theorem IS {kindOf : Str -> Option NameKind} {x : Str} {v : Value} : ∀ {P : List Str} {vs : List Value} {i : Nat} {m : Str -> Option Value},P.Nodup -> P[i]? = some x -> vs[i]? = some v -> kindOf x = some .local ->
  bindL kindOf (P.zip vs) m x = some v
 | [],_,_,_,_,h,_,_ => by simp at h
 | _ :: _,[],_,_,_,_,h,_ => by simp at h
 | p :: P,w :: vs,0,m,nd,h1,h2,hk => by
  simp at h1 h2; subst h1; subst h2
  show bindL kindOf ((p,w) :: P.zip vs) m p = _
  unfold bindL
  rw [IQ fun v hv => (List.nodup_cons.mp nd).1 (List.of_mem_zip hv).1,if_pos hk]
  simp
 | p :: P,w :: vs,i + 1,m,nd,h1,h2,hk => by
  show bindL kindOf ((p,w) :: P.zip vs) m x = _
  unfold bindL
  exact IS (i := i) (List.nodup_cons.mp nd).2 (by simpa using h1) (by simpa using h2) hk
theorem IT {kindOf : Str -> Option NameKind} {x : Str} {v : Value} : ∀ {P : List Str} {vs : List Value} {i : Nat} {m : Str -> Option Value},P.Nodup -> P[i]? = some x -> vs[i]? = some v -> kindOf x ≠ some .local ->
  bindC kindOf (P.zip vs) m x = some v
 | [],_,_,_,_,h,_,_ => by simp at h
 | _ :: _,[],_,_,_,_,h,_ => by simp at h
 | p :: P,w :: vs,0,m,nd,h1,h2,hk => by
  simp at h1 h2; subst h1; subst h2
  show bindC kindOf ((p,w) :: P.zip vs) m p = _
  unfold bindC
  rw [IR fun v hv => (List.nodup_cons.mp nd).1 (List.of_mem_zip hv).1,if_neg hk]
  simp
 | p :: P,w :: vs,i + 1,m,nd,h1,h2,hk => by
  show bindC kindOf ((p,w) :: P.zip vs) m x = _
  unfold bindC
  exact IT (i := i) (List.nodup_cons.mp nd).2 (by simpa using h1) (by simpa using h2) hk
def start (N : List Str) (vs : List V) : St := vs.map some ++ List.replicate (N.length - vs.length) none
def DB (CX : B7) (P : Program) (w : World) (K : PySem.W.Frag) (mg : Str -> Option Value) (base : Heap) (N : List Str) (qual : Str) (scope : Scope) (f : Addr) (cd : Value) (A : Around) (outer : List Env) (s : Shared) (H : Hp) (E : XK) : Cx where
 prog := P
 w := w
 K := K
 mg := mg
 base := base
 A := A.deeper (envOfC qual scope s.heap.objs.size f cd)
 N := N
 s₀ := s
 H₀ := H
 env := envOfC qual scope s.heap.objs.size f cd
 outer := outer
 stack := envOfC qual scope s.heap.objs.size f cd :: outer
 ex := []
 calm := true
 fn := fun _ => true
 pn := []
 xe := fun e s' => wpAny (model P w) (A.deeper (envOfC qual scope s.heap.objs.size f cd)) (leaving (envOfC qual scope s.heap.objs.size f cd) e) (fun _ s'' => CX outer H s E e s'') (fun e' s'' => CX outer H s E e' s'') s'
theorem IU {sc : Scope} {n : Nat} {x : Str} (h : sc.names.lookup x = some .cell) : ∃ c,(cellsFrom n sc.names []).lookup x = some c := by
 have q := PySem.W.cellsFrom_some sc.names n [] (.inl h)
 exact Option.isSome_iff_exists.mp q
theorem Mg {CX : B7} {w : World} {K : PySem.W.Frag} {mg : Str -> Option Value} {base : Heap} {N ps : List Str} {f : Addr} {cd : Value} {A : Around} {outer : List Env} {s s1 : Shared} {H : Hp} {E : XK}
  (S : Av N ps scope) (hd : A.handled = none) (e0 : DZ P w K mg base A outer s H) (hl : vs.length = ps.length) (r : At vs us)
  (x : InCallC s s.heap.objs.size (bindL (envOfC qual scope s.heap.objs.size f cd).kindOf (ps.zip us) fun _ => none) (cellsFrom (s.heap.objs.size + 1) scope.names []) (bindC (envOfC qual scope s.heap.objs.size f cd).kindOf (ps.zip us) fun _ => none) s1) :
  Ae (DB CX P w K mg base N qual scope f cd A outer s H E) [] (start N vs) H s1 := by
 have hpl : ps.length <= N.length := by have := congrArg List.length S.pre; rw [List.length_take] at this; omega
 obtain ⟨h1,tk,rfl,hk⟩ := x.done
 have noA : ∀ b : Addr,b ∉ (DB CX P w K mg base N qual scope f cd A outer s H E).ex := fun b z => absurd (show b ∈ ([] : List Addr) from z) (by simp)
 refine ⟨⟨e0.mod,S.kind,rfl,rfl,Nat.le_refl _,fun y z c h1 h2 => ?_,fun y hy => ?_,fun y c _ h => ?_,fun _ => hd,Around.frames_deeper e0.frames,.inr ⟨rfl,rfl⟩,fun b z => absurd z (noA b),e0.bs,e0.bsz,fun b _ _ => noA b,fun b z => absurd z (noA b),e0.funs,e0.frf⟩,
  rfl,e0.bare,Un.kept hk,⟨_,x.toInCall.ns,fun i y v h1 h2 h3 => ?_⟩,fun y c h => ⟨_,x.cell y c h⟩,e0.hok.fresh (Nat.le_refl _),fun y c h => ?_,fun p hp => absurd (show p ∈ ([] : List (Addr × Obj)) from hp) (by simp),e0.hok.kept hk,?_⟩
 ·exact name_of_addr x.apart (PySem.mem_of_lookup h1) (PySem.mem_of_lookup h2)
 ·have hy : scope.names.lookup y = some .cell \/ scope.names.lookup y = some .free := hy
  rcases hy with hy | hy
  ·exact IU hy
  ·exact absurd rfl (S.nofree _ (PySem.mem_of_lookup hy))
 ·exact Nat.le_of_lt (x.above y c (PySem.mem_of_lookup h))
 ·have hi : i < vs.length := by
   unfold start at h2
   by_cases hi : i < vs.length
   ·exact hi
   ·rw [List.getElem?_append_right (by simpa using hi)] at h2
    rw [List.getElem?_replicate] at h2
    split at h2 <;> cases h2
  have ha : vs[i]? = some v := by
   unfold start at h2
   rw [List.getElem?_append_left (by simpa using hi),List.getElem?_map] at h2
   cases e : vs[i]? with
   | none => rw [e] at h2; cases h2
   | some a => rw [e] at h2; cases h2; rfl
  obtain ⟨u,hu,rv⟩ := r.get ha
  have hp : ps[i]? = some y := by
   rw [<- S.pre,List.getElem?_take_of_lt (by omega)]; exact h1
  have ndP : ps.Nodup := by rw [<- S.pre]; exact S.nd.sublist (List.take_sublist _ _)
  refine ⟨u,rv,?_⟩
  rcases S.par y (List.mem_of_getElem? hp) with k | k
  ·exact .inl ⟨k,IS ndP hp hu k⟩
  ·obtain ⟨c,e⟩ := IU (n := s.heap.objs.size + 1) k
   refine .inr ⟨.inl k,c,e,?_⟩
   have q := x.cell y c e
   rw [IT ndP hp hu (by show scope.names.lookup y ≠ _; rw [k]; decide)] at q
   exact q
 ·exact e0.hok.fresh (Nat.le_of_lt (x.above y c (PySem.mem_of_lookup h)))
 ·unfold start
  show _ = N.length
  rw [List.length_append,List.length_map,List.length_replicate]
  omega
theorem Mh {CX : B7} {w : World} {K : PySem.W.Frag} {mg : Str -> Option Value} {base : Heap} {k : Nat} {f : Addr} {name : Str} {params : Arguments} {body : List Stmt} {dV kV doc pm cdv ct oc : Value} {an od : Option Addr}
  {osl : Array (Option Value)} {N ps : List Str} {sp : Sp} (lk : K.lookup f = some ⟨oc,od,.func (PySem.W.fnOf name qual params body scope dV kV doc pm an cdv ct),osl⟩) (hcd : PySem.W.codeIn K cdv qual = true) (S : Av N ps scope)
  (len : ∀ vs H Q E,sp vs H Q E -> vs.length = ps.length)
  (hbody : ∀ (A : Around) (outer : List Env) (s : Shared) (H : Hp) (vs : List V) (Q : VK) (E : XK), Be k (A.deeper (envOfC qual scope s.heap.objs.size f cdv)) -> sp vs H Q E ->
   ∃ t,PSs (DB CX P w K mg base N qual scope f cdv A outer s H E) body t /\ t { nx := fun _ H' => Q .non H',rt := Q } (start N vs) H) :
  Cy P w K mg base CX (k + 1) f (PySem.W.fnOf name qual params body scope dV kV doc pm an cdv ct) ps sp := by
 refine ⟨len,fun A outer s H args us vs Q E hr e0 hb r hsp => ?_⟩
 have hl := len _ _ _ _ hsp
 have KX : K.In s.heap := e0.mod.kin.keeps fun b o e => (e0.bs b o e).1
 have lim : s.heap.NoLimit := e0.mod.nolimit.keeps fun b o e => (e0.bs b o e).1
 have hkind : ∀ y ∈ ps.zip us,scope.names.lookup y.1 = some .local \/ (scope.names.lookup y.1 = some .cell /\ ((cellsFrom (s.heap.objs.size + 1) scope.names []).lookup y.1).isSome = true) := fun ⟨n,v⟩ hy => by
  rcases S.par n (List.of_mem_zip hy).1 with q | q
  ·exact .inl q
  ·exact .inr ⟨q,PySem.W.cellsFrom_some _ _ _ (.inl q)⟩
 refine codeAny_call_function hr.depth (KX _ _ lk) rfl S.co S.gen rfl (PySem.W.codeRec_of KX hcd) (hb _ _ _ _ ?_)
 refine wpAny_newFunctionEnv_cells S.kind hkind fun env he s1 x => ?_
 subst he
 refine ⟨lim.keeps x.toInCall.keep,codeAny_func ?_⟩
 obtain ⟨t,ht,hq⟩ := hbody A outer s H vs Q E (hr.deeper _) hsp
 have I : Ae (DB CX P w K mg base N qual scope f cdv A outer s H E) [] (start N vs) H s1 := Mg S hr.hd e0 hl r x
 refine wpAny_mono (ht [] s1 (start N vs) H _ I hq) (fun fl s' hs => ?_) fun e s' hs => hs
 have fin : ∀ {σ' : St} {H' : Hp} {v : V} {u : Value},Ae (DB CX P w K mg base N qual scope f cdv A outer s H E) [] σ' H' s' -> AA v u -> Q v H' -> CE outer P w H s Q u s' :=
  fun {σ' H' v u} J rv q => ⟨v,H',J.os,J.bare,J.base,J.hok,rv,q⟩
 cases fl with
 | ret u =>
  obtain ⟨v,σ',H',J,rv,q⟩ := hs
  exact fin J rv q
 | next =>
  obtain ⟨σ',H',J,q⟩ := hs
  exact fin (v := V.non) (u := Value.none) J rfl q
 | brk =>
  obtain ⟨_,_,_,q⟩ := hs
  exact False.elim q
 | cont =>
  obtain ⟨_,_,_,q⟩ := hs
  exact False.elim q
end L2
namespace L2
open PySem PySem.Spec PyProof.Rows
section
variable {X : Cx} {x : Str} {p pos : Pos} {e : Expr} {es : List Expr} {t : TA} {id T : String} {r : List V -> Hp -> VK -> Prop}
def IV (r : List V -> Hp -> VK -> Prop) (t : TA) : TE := fun σ H Q => t σ H fun vs H1 => r vs H1 Q
theorem AF (hc : Bx X (.builtin id) r) (hg : Gl X x) (hm : X.mg x = none) (hv : bootBuiltins x = some (.builtin id)) (ha : PA X (e :: es) t) (hn : x ≠ "__name__" := by decide) (hdb : (x == ("__debug__" : Str)) = false := by decide)
  (he : starEach (e :: es) X.env = (false,eval e X.env) :: starEach es X.env := by rfl) (hpl : (backTo pos (starEach es X.env)).any (·.1) = false := by rfl) : PE X (.Call (.Name x p) (e :: es) [] pos) (IV r t) := by
 intro pins s σ H Q I h
 refine wpAny_Call_Name_kw (Cf I hg hm hv ?_ hn hdb)
 exact PyProof.Rows.callWith_builtin1 (Ao (ha pos pins s σ H _ I h) fun us s1 ⟨vs,H1,I1,r1,q1⟩ => hc pins s1 σ H1 vs us Q I1 r1 q1) he hpl
theorem By (hc : Bx X (.type T) r) (hg : Gl X x) (hm : X.mg x = none) (hv : bootBuiltins x = some (.type T)) (ha : PA X (e :: es) t) (hn : x ≠ "__name__" := by decide) (hdb : (x == ("__debug__" : Str)) = false := by decide)
  (he : starEach (e :: es) X.env = (false,eval e X.env) :: starEach es X.env := by rfl) (hpl : (backTo pos (starEach es X.env)).any (·.1) = false := by rfl) : PE X (.Call (.Name x p) (e :: es) [] pos) (IV r t) := by
 intro pins s σ H Q I h
 refine wpAny_Call_Name_kw (Cf I hg hm hv ?_ hn hdb)
 exact PyProof.Rows.callWith_type1 (Ao (ha pos pins s σ H _ I h) fun us s1 ⟨vs,H1,I1,r1,q1⟩ => hc pins s1 σ H1 vs us Q I1 r1 q1) he hpl
end
end L2
namespace HT
open PySem PyProof.Rows
variable {sl : Addr} {vl vu : Value}
section
open PySem.SeqAt
open PySem.AutoSeq1 (wpAny_loadPart')
open PySem.MeetsSeq PySem.MeetsSeq2 PySem.MeetsSeq3
end
section
variable {prog : Program} {w : World} {A : Around} {E : Value -> Shared -> Prop} {s : Shared}
def sIx (n d : Nat) : Option Int -> Nat
 | none => d
 | some v => if v < 0 then (v + (n : Int)).toNat else min v.toNat n
theorem sIx_nat (n d k : Nat) : sIx n d (some (k : Int)) = min k n := by
 show (if (k : Int) < 0 then ((k : Int) + (n : Int)).toNat else min (k : Int).toNat n) = min k n
 rw [if_neg (by omega),Int.toNat_natCast]
theorem Mi (n d : Nat) (hd : d <= n) (o : Option Int) : sIx n d o <= n := by
 cases o with
 | none => exact hd
 | some v =>
  show (if v < 0 then (v + (n : Int)).toNat else min v.toNat n) <= n
  by_cases hv : v < 0
  ·rw [if_pos hv]; omega
  ·rw [if_neg hv]; exact Nat.min_le_right _ _
theorem IW (v : Int) (n d : Nat) : (if v < 0 then max (v + (n : Int)) 0 else min v (n : Int)) = ((sIx n d (some v) : Nat) : Int) := by
 show (if v < 0 then max (v + (n : Int)) 0 else min v (n : Int)) = (((if v < 0 then (v + (n : Int)).toNat else min v.toNat n) : Nat) : Int)
 by_cases hv : v < 0
 ·simp only [if_pos hv]; omega
 ·simp only [if_neg hv]; omega
theorem Mj (lo hi : Option Int) (n : Nat) : Builtin.Slice.sliceAdjust lo hi 1 (n : Int) = (((sIx n 0 lo : Nat) : Int),((sIx n n hi : Nat) : Int)) := by
 have h1 : ¬ ((1 : Int) < 0) := by omega
 unfold Builtin.Slice.sliceAdjust
 simp only [h1,if_false]
 refine Prod.ext ?_ ?_
 ·cases lo with
  | none => rfl
  | some v => exact IW v n 0
 ·cases hi with
  | none => rfl
  | some v => exact IW v n n
theorem Ml (i j : Nat) : Builtin.Slice.slicePlaces (i : Int) (j : Int) 1 = j - i := by
 unfold Builtin.Slice.slicePlaces
 have h1 : (1 : Int) > 0 := by omega
 simp only [h1,if_true,Int.ediv_one]
 split <;> omega
theorem IY {v : Value} {o : Option Int} {Q : Option Int -> Shared -> Prop} (p : IsPart v o) (h : Q o s) : wpAny (model prog w) A (Builtin.Slice.slicePartIndex v) Q E s := by
 cases p with
 | none => exact slicePart_none h
 | int i t => exact slicePart_int h
theorem sliceApplied_gen {lo hi : Option Int} {n : Nat} {Q : Int × Int × Nat -> Shared -> Prop} (hs : s.heap.IsSliceOf sl vl vu .none) (pl : IsPart vl lo) (pu : IsPart vu hi)
  (h : Q (((sIx n 0 lo : Nat) : Int),1,sIx n n hi - sIx n 0 lo) s) : wpAny (model prog w) A (Builtin.Slice.sliceApplied (.ref sl) (pure (n : Int))) Q E s := by
 obtain ⟨os,hos,hcs,hds⟩ := id hs
 unfold Builtin.Slice.sliceApplied Builtin.Slice.sliceFields
 refine wpAny_bind (wpAny_bind (wpAny_field hos hds (x := vl) rfl (wpAny_bind (wpAny_field hos hds (x := vu) rfl (wpAny_bind (wpAny_field hos hds (x := .none) rfl (wpAny_pure ?_)))))))
 refine wpAny_bind (slicePart_none ?_)
 show wpAny _ _ (if ((1 : Int) == 0) = true then _ else _) _ _ s
 rw [if_neg (by decide)]
 refine wpAny_bind (IY pl (wpAny_bind (IY pu (wpAny_bind (wpAny_pure ?_)))))
 show wpAny _ _ (match Builtin.Slice.sliceAdjust lo hi 1 (n : Int) with | (lo,hi) => pure (lo,(1 : Int),Builtin.Slice.slicePlaces lo hi 1)) _ _ s
 rw [Mj lo hi n]
 show wpAny _ _ (pure (((sIx n 0 lo : Nat) : Int),(1 : Int),Builtin.Slice.slicePlaces ((sIx n 0 lo : Nat) : Int) ((sIx n n hi : Nat) : Int) 1)) _ _ s
 rw [Ml]
 exact wpAny_pure h
theorem Mm (xs : Array Value) (i k : Nat) : ((List.range k).filterMap fun (m : Nat) => xs[((i : Int) + (m : Int) * 1).toNat]?).toArray = ((xs.toList.drop i).take k).toArray := by
 have e : (fun (m : Nat) => xs[((i : Int) + (m : Int) * 1).toNat]?) = fun m => xs[i + m]? := by
  funext m
  have : ((i : Int) + (m : Int) * 1).toNat = i + m := by omega
  rw [this]
 rw [e]
 have := pick_run xs i k
 rw [List.filterMap_map] at this
 have e2 : ((fun x => xs[x]?) ∘ fun x => i + x) = fun m => xs[i + m]? := rfl
 rw [e2] at this
 rw [this]
theorem getItem_tuple_cut {t : Addr} {items : Array Value} {lo hi : Option Int} {Q : Value -> Shared -> Prop} (ht : IsTup s.heap t items) (hs : s.heap.IsSliceOf sl vl vu .none) (pl : IsPart vl lo) (pu : IsPart vu hi)
  (hw : ¬ (sIx items.size 0 lo = 0 /\ sIx items.size items.size hi = items.size))
  (h : Q (.ref s.heap.objs.size) { s with heap := s.heap.push { cls := .type "tuple",data := .seq ((items.toList.drop (sIx items.size 0 lo)).take (sIx items.size items.size hi - sIx items.size 0 lo)).toArray } })
  (hsz : items.size <= sizeLine) : wpAny (model prog w) A (getItem (.ref t) (.ref sl)) Q E s := by
 have htake : sizeOk (.seq ((items.toList.drop (sIx items.size 0 lo)).take (sIx items.size items.size hi - sIx items.size 0 lo)).toArray) := by
  show ((items.toList.drop (sIx items.size 0 lo)).take (sIx items.size items.size hi - sIx items.size 0 lo)).toArray.size <= sizeLine
  rw [List.size_toArray,List.length_take,List.length_drop,Array.length_toList]
  omega
 have hj : sIx items.size items.size hi <= items.size := Mi _ _ (Nat.le_refl _) hi
 obtain ⟨os,hos,hcs,hds⟩ := id hs
 have hTs : s.TypeIs (.ref sl) "slice" := ⟨os,hos,hcs⟩
 unfold getItem
 try with_reducible refine wpAny_holding ?_
 first | refine wpAny_bind (wpAny_pure ?_) | skip
 refine wpAny_bind (wpAny_sequenceKey ht.typeIs (by decide) ?_)
 refine wpAny_bind (wpAny_callSpecial?_slot (name := Str.ofString "__getitem__") ht.typeIs PyProof.Rows.slot_tuple_getitem
  (wpAny_call_entry PyProof.Rows.slot_tuple_getitem ht.typeIs entry_tuple_getitem ?_ (args_tuple_getitem _ _)))
 show wpAny _ _ (Builtin.Tuple.tupleItemsOf (.ref t) >>= _) _ _ s
 refine wpAny_bind (tupleItemsOf_ ht ?_)
 refine wpAny_bind (wpAny_typeOf hTs ?_)
 rw [if_pos (by decide)]
 refine wpAny_bind (sliceApplied_gen hs pl pu ?_)
 have hno : ¬ ((((sIx items.size 0 lo : Nat) : Int) == 0 && (1 : Int) == 1 && (sIx items.size items.size hi - sIx items.size 0 lo) == items.size) = true) := by
  intro q
  rw [Bool.and_eq_true,Bool.and_eq_true] at q
  have q1 : ((sIx items.size 0 lo : Nat) : Int) = 0 := eq_of_beq q.1.1
  have q2 : sIx items.size items.size hi - sIx items.size 0 lo = items.size := eq_of_beq q.2
  exact hw ⟨by omega,by omega⟩
 show wpAny _ _ (if (((sIx items.size 0 lo : Nat) : Int) == 0 && (1 : Int) == 1 && (sIx items.size items.size hi - sIx items.size 0 lo) == items.size) = true then _ else _) _ _ s
 rw [if_neg hno,Mm]
 first
  | exact wpAny_bind (m := Builtin.Tuple.tupleExact _) (wpAny_newObj_type (wpAny_pure ⟨_,rfl,wpAny_pure h⟩) htake)
  | exact wpAny_bind (m := Builtin.Tuple.tupleExact _) (wpAny_newObj_type (wpAny_bind (wpAny_pure (wpAny_pure ⟨_,rfl,wpAny_pure h⟩))) htake)
  | exact wpAny_bind (wpAny_bind (m := Builtin.Tuple.tupleExact _) (wpAny_newObj_type (wpAny_pure (wpAny_pure ⟨_,rfl,wpAny_pure h⟩)) htake))
  | exact wpAny_bind (wpAny_bind (m := Builtin.Tuple.tupleExact _) (wpAny_newObj_type (wpAny_pure ⟨_,rfl,wpAny_pure h⟩) htake))
end
end HT
namespace L2
open PySem PySem.Spec PyProof.Rows
abbrev TO := St -> Hp -> (Option Int -> Hp -> Prop) -> Prop
def PO (X : Cx) (e : Option Expr) (t : TO) : Prop :=
 ∀ (pins : List (Addr × Obj)) (s : Shared) (σ : St) (H : Hp) (Q : Option Int -> Hp -> Prop),Ae X pins σ H s -> t σ H Q ->
  wpAny (model X.prog X.w) X.A (evalPart e X.env) (fun u s' => ∃ o H',Ae X pins σ H' s' /\ IsPart u o /\ Q o H') X.xe s
def Mo : TO := fun _ H Q => Q none H
def Mp (t : TE) : TO := fun σ H Q => t σ H fun x H1 => ∃ i,x = .int i /\ Q (some i) H1
theorem Mq {ns : List Int} : ∀ {us : List Value},At (ns.map V.int) us -> IntsAre us ns := by
 induction ns with
 | nil => intro us r; rw [List.map_nil] at r; cases r; exact .nil
 | cons n ns ih =>
  intro us r
  rw [List.map_cons] at r
  cases r with
  | cons r1 r2 =>
   obtain ⟨t,e⟩ := r1
   subst e
   exact .cons n t (ih r2)
section
variable {X : Cx} {e : Expr} {te : TE} {lo hi : Option Expr} {tl th : TO} {pos p2 : Pos}
theorem EC : PO X none Mo := by
 intro pins s σ H Q I h
 rw [evalPart_none]
 exact wpAny_pure ⟨none,H,I,.none,h⟩
theorem B8 (h : PE X e te) : PO X (some e) (Mp te) := by
 intro pins s σ H Q I hw
 rw [evalPart_some]
 refine Ao (h pins s σ H _ I hw) fun u s1 ⟨x,H1,I1,r1,q1⟩ => ?_
 obtain ⟨i,rfl,q⟩ := q1
 obtain ⟨t,rfl⟩ := r1
 exact ⟨some i,H1,I1,.int i t,q⟩
def Fq (X : Cx) (r : V -> Option Int -> Option Int -> Hp -> VK -> Prop) : Prop :=
 ∀ (pins : List (Addr × Obj)) (s : Shared) (σ : St) (H : Hp) (x : V) (v vl vu : Value) (lo hi : Option Int) (sl : Addr) (Q : VK),Ae X pins σ H s -> AA x v -> s.heap.IsSliceOf sl vl vu .none -> IsPart vl lo -> IsPart vu hi -> r x lo hi H Q ->
  ∃ T id,typeLookup (.type T) "__getitem__" = pure (some (.builtin id)) /\ s.TypeIs v T /\ wpAny (model X.prog X.w) X.A (getItem v (.ref sl)) (EP X pins σ Q) X.xe s
def Mr (r : V -> Option Int -> Option Int -> Hp -> VK -> Prop) (te : TE) (tl th : TO) : TE := fun σ H Q => te σ H fun x H1 => tl σ H1 fun l H2 => th σ H2 fun u H3 => r x l u H3 Q
theorem CU {r : V -> Option Int -> Option Int -> Hp -> VK -> Prop} (hr : Fq X r) (he : PE X e te) (hl : PO X lo tl) (hu : PO X hi th) : PE X (.Subscript e (.Slice lo hi none p2) pos) (Mr r te tl th) := by
 intro pins s σ H Q I h
 refine Subscript_ (Ao (he pins s σ H _ I h) fun v s1 ⟨x,H1,I1,r1,q1⟩ => ?_)
 refine wpAny_Slice (Ao (hl pins s1 σ H1 _ I1 q1) fun vl s2 ⟨l,H2,I2,pl,q2⟩ => Ao (hu pins s2 σ H2 _ I2 q2) fun vu s3 ⟨u,H3,I3,pu,q3⟩ => ?_)
 rw [evalPart_none]
 refine wpAny_pure ?_
 have I4 : Ae X pins σ H3 { s3 with heap := s3.heap.push { cls := .type "slice",data := .fields #[vl,vu,.none] } } := I3.kept (t' := s3.toks) fun b ob q => Heap.get?_push_of_some _ q
 obtain ⟨T,id,hT,ht,hg⟩ := hr pins { s3 with heap := s3.heap.push { cls := .type "slice",data := .fields #[vl,vu,.none] } } σ H3 x v vl vu l u s3.heap.objs.size Q I4 r1 (Heap.IsSliceOf.new ..) pl pu q3
 show wpAny (model X.prog X.w) X.A (subscriptTail e (.Slice lo hi none p2) v (.ref s3.heap.objs.size)) (EP X pins σ Q) X.xe { s3 with heap := s3.heap.push { cls := .type "slice",data := .fields #[vl,vu,.none] } }
 exact tail_any (ops := [.ref s3.heap.objs.size,v]) ht hT hg (by with_unfolding_all rfl)
def A7 (xs : List V) (lo hi : Option Int) : List V := (xs.drop (HT.sIx xs.length 0 lo)).take (HT.sIx xs.length xs.length hi - HT.sIx xs.length 0 lo)
theorem Fr (xs : List V) (lo hi : Option Int) : (A7 xs lo hi).length <= xs.length := by
 unfold A7
 rw [List.length_take,List.length_drop]
 omega
end
end L2
namespace L2
open PySem PySem.Spec PyProof.Rows
variable {n j : Nat} {i : Int} {α : Type} {xs : List α} {v u : Value} {pins : List (Addr × Obj)} {σ : St} {H : Hp} {s : Shared} {p : Addr} {y : V}
def CI (n : Nat) (i : Int) : Option Nat := if 0 <= i then (if i < n then some i.toNat else none) else if -(n : Int) <= i then some (i + n).toNat else none
def Ci {α : Type} (xs : List α) (i : Int) : Option α := (CI xs.length i).bind fun j => xs[j]?
theorem IZ (h : CI n i = some j) : seqIndex? i n = some j /\ j < n /\ -(n : Int) <= i /\ i < n := by
 unfold CI at h
 by_cases h0 : 0 <= i
 ·rw [if_pos h0] at h
  by_cases h1 : i < n
  ·rw [if_pos h1] at h
   have e : i.toNat = j := Option.some.inj h
   exact ⟨by rw [seqIndex_of h0 h1,e],by omega,by omega,h1⟩
  ·rw [if_neg h1] at h; cases h
 ·rw [if_neg h0] at h
  by_cases h1 : -(n : Int) <= i
  ·rw [if_pos h1] at h
   have e : (i + n).toNat = j := Option.some.inj h
   exact ⟨by rw [seqIndex_neg (by omega) h1,e],by omega,h1,by omega⟩
  ·rw [if_neg h1] at h; cases h
theorem I8 {v : α} (h : Ci xs i = some v) : ∃ j,seqIndex? i xs.length = some j /\ xs[j]? = some v /\ j < xs.length /\ -(xs.length : Int) <= i /\ i < xs.length := by
 unfold Ci at h
 cases e : CI xs.length i with
 | none => rw [e] at h; cases h
 | some j =>
  rw [e] at h
  obtain ⟨h1,h2,h3,h4⟩ := IZ e
  exact ⟨j,h1,h,h2,h3,h4⟩
theorem B9 {v : α} (h : xs[j]? = some v) : Ci xs (j : Int) = some v := by
 have hj : j < xs.length := (List.getElem?_eq_some_iff.mp h).1
 have e : CI xs.length (j : Int) = some j := by
  unfold CI
  rw [if_pos (by omega),if_pos (by omega)]; simp
 unfold Ci; rw [e]; exact h
def Ms (b : Expr) : Prop := ∀ o i,subscripted b false o i = operate [o,i] (getItem o i)
def ED (X : Cx) (r : R2) : Prop :=
 ∀ (value slice : Expr) (pins : List (Addr × Obj)) (s : Shared) (σ : St) (H : Hp) (x y : V) (v u : Value) (Q : VK),Ae X pins σ H s -> AA x v -> AA y u -> r x y H Q ->
  subscripted slice false v u = operate [v,u] (getItem v u) -> wpAny (model X.prog X.w) X.A (subscriptTail value slice v u) (EP X pins σ Q) X.xe s
def Mt (X : Cx) (id : String) (r : V -> List V -> Hp -> VK -> Prop) : Prop :=
 ∀ (pins : List (Addr × Obj)) (s : Shared) (σ : St) (H : Hp) (x : V) (xs : List V) (v : Value) (us : List Value) (Q : VK),Ae X pins σ H s -> AA x v -> At xs us -> r x xs H Q ->
  wpAny (model X.prog X.w) X.A (call (.builtin id) (v :: us)) (EP X pins σ Q) X.xe s
section
variable {X : Cx} {a b : Expr} {ta tb : TE} {pos : Pos}
theorem Az {r : R2} (hr : ED X r) (ha : PE X a ta) (hb : PE X b tb) (hs : Ms b) : PE X (.Subscript a b pos) (Fi r ta tb) := by
 intro pins s σ H Q I h
 exact Subscript_ (G9 ha hb I h fun v u s2 x y H2 I2 rx ry q => hr a b pins s2 σ H2 x y v u Q I2 rx ry q (hs _ _))
def I9 (K : PySem.W.Frag) : R2 := fun x y H Q => ∃ p xs i v,x = .ref p /\ y = .int i /\ An K H p xs /\ Ci xs i = some v /\ Q v H
def Jc (K : PySem.W.Frag) : R2 := fun x y H Q => ∃ p xs i v,x = .ref p /\ y = .int i /\ Ac K H p xs /\ Ci xs i = some v /\ Q v H
theorem Mu : ED X (I9 X.K) := by
 intro value slice pins s σ H x y v u Q I rx ry h hs
 obtain ⟨p,xs,i,z,rfl,rfl,hq,he,q⟩ := h
 cases rx
 obtain ⟨t,rfl⟩ := ry
 obtain ⟨its,r,pl,hz⟩ := I.list hq
 obtain ⟨j,h1,h2,h3,h4,h5⟩ := I8 he
 obtain ⟨w,ew,rw'⟩ := r.get h2
 have hl := r.length
 have hn := EA
 have fin : EP X pins σ Q w s := ⟨z,H,I,rw',q⟩
 by_cases h0 : 0 <= i
 ·have hj : i.toNat = j := by
   rw [seqIndex_of h0 h5] at h1
   exact Option.some.inj h1
  exact item_listR pl.isList h0 (by omega) (by rw [hj]; simpa using ew) fin hs
 ·have hj : (i + (its.toArray.size : Int)).toNat = j := by
   rw [seqIndex_neg (by omega) h4] at h1
   rw [List.size_toArray,<- hl]
   exact Option.some.inj h1
  exact subscriptTail_builtinR (x := w) pl.isList.typeIs slot_list_getitem.lookup
   (wpAny_getItem_list_neg (Q := fun r s' => r = w /\ EP X pins σ Q r s') pl.isList (by omega) (by rw [List.size_toArray] <;> omega) (by omega) (by rw [hj]; simpa using ew) ⟨rfl,fin⟩) hs
theorem Mv : ED X (Jc X.K) := by
 intro value slice pins s σ H x y v u Q I rx ry h hs
 obtain ⟨p,xs,i,z,rfl,rfl,hq,he,q⟩ := h
 cases rx
 obtain ⟨t,rfl⟩ := ry
 obtain ⟨its,r,pl,hz⟩ := I.tuple hq
 obtain ⟨j,h1,h2,h3,h4,h5⟩ := I8 he
 obtain ⟨w,ew,rw'⟩ := r.get h2
 have hl := r.length
 have hn := EA
 have fin : EP X pins σ Q w s := ⟨z,H,I,rw',q⟩
 exact subscriptTail_builtinR (x := w) pl.typeIs slot_tuple_getitem.lookup
  (getItem_tuple (j := j) (Q := fun r s' => r = w /\ EP X pins σ Q r s') pl (by omega) (by omega) (by rw [List.size_toArray,<- hl]; exact h1) (by simpa using ew) ⟨rfl,fin⟩) hs
theorem Mw (its : List Value) (n j : Nat) (u : Value) : Obj.mapSeq (·.setIfInBounds j u) { cls := .type "list",data := .seq its.toArray n } = { cls := .type "list",data := .seq (its.set j u).toArray n } := by
 simp [Obj.mapSeq]
theorem Ae.lst {xs : List V} (I : Ae X pins σ H s) (h : H p = some (.lst xs)) :
  ∃ (its : List Value) (n : Nat),At xs its /\ s.heap.get? p = some { cls := .type "list",data := .seq its.toArray n } /\ xs.length <= sizeLine := by
 obtain ⟨z,its,n,r,e⟩ := I.hok p _ h
 exact ⟨its,n,r,e,z⟩
theorem Ae.lstUpd {xs ys : List V} {its its' : List Value} {n' : Nat} {f : Obj -> Obj} (I : Ae X pins σ H s) (h : H p = some (.lst xs))
  (ho : s.heap.get? p = some { cls := .type "list",data := .seq its.toArray n }) (hf : f { cls := .type "list",data := .seq its.toArray n } = { cls := .type "list",data := .seq its'.toArray n' }) (r : At ys its') (hz : ys.length <= sizeLine) (t : Nat) :
  Ae X pins σ (upd H p (.lst ys)) { s with heap := s.heap.update p f,toks := t } := by
 have e : (s.heap.update p f).get? p = some { cls := .type "list",data := .seq its'.toArray n' } := by
  rw [Heap.get?_update_self f ho (by rw [hf] <;> rfl),hf]
 refine I.write (x := p) (e := p) (by rw [h]; trivial) (.inl rfl) (fun b u hb q => (Heap.get?_update_other _ _ (Ne.symm hb)).trans q) ⟨_,e⟩ ?_
 exact ⟨hz,its',n',r,e⟩
def Mx : V -> V -> V -> Hp -> (Hp -> Prop) -> Prop := fun o i v H Q => ∃ p xs k j,o = .ref p /\ i = .int k /\ H p = some (.lst xs) /\ CI xs.length k = some j /\ Q (upd H p (.lst (xs.set j v)))
theorem Fs : G5 X Mx := by
 intro pins s σ H o i v ov iv u Q I ro ri rv h
 obtain ⟨p,xs,k,j,rfl,rfl,hp,hj,q⟩ := h
 cases ro
 obtain ⟨t,rfl⟩ := ri
 obtain ⟨its,n,r,ho,hz⟩ := I.lst hp
 obtain ⟨h1,h2,h3,h4⟩ := IZ hj
 have hl := r.length
 have hn := EA
 have I' : Ae X pins σ (upd H p (.lst (xs.set j v))) { s with heap := s.heap.update p (Obj.mapSeq (·.setIfInBounds j u)) } :=
  I.lstUpd hp ho (Mw its n j u) (r.set rv j) (by rw [List.length_set]; exact hz) s.toks
 by_cases h0 : 0 <= k
 ·have hk : k.toNat = j := by
   rw [seqIndex_of h0 h4] at h1
   exact Option.some.inj h1
  exact PySem.W.ki_setAt ho h0 (by omega) (by rw [List.size_toArray,<- hl]; exact h4) (by rw [hk]; exact ⟨_,I',q⟩)
 ·have hk : (k + (its.toArray.size : Int)).toNat = j := by
   rw [seqIndex_neg (by omega) h3] at h1
   rw [List.size_toArray,<- hl]
   exact Option.some.inj h1
  exact PySem.W.ki_setBack ho (by omega) (by rw [List.size_toArray,<- hl]; exact h3) (by omega) (by rw [hk]; exact ⟨_,I',q⟩)
theorem My (lo hi : Option Int) (n : Nat) : (sliceBounds lo hi none n).1 = ((HT.sIx n 0 lo : Nat) : Int) /\ (sliceBounds lo hi none n).2.1 = ((HT.sIx n n hi : Nat) : Int) /\ (sliceBounds lo hi none n).2.2 = 1 := by
 refine ⟨?_,?_,rfl⟩
 ·cases lo with
  | none => simp [sliceBounds,HT.sIx]
  | some i =>
   simp only [sliceBounds,HT.sIx,Option.getD_none,show (1 : Int) > 0 by decide,if_true]
   by_cases h : i < 0
   ·simp only [h,if_true] <;> omega
   ·simp only [h,if_false] <;> omega
 ·cases hi with
  | none => simp [sliceBounds,HT.sIx]
  | some i =>
   simp only [sliceBounds,HT.sIx,Option.getD_none,show (1 : Int) > 0 by decide,if_true]
   by_cases h : i < 0
   ·simp only [h,if_true] <;> omega
   ·simp only [h,if_false] <;> omega
theorem Mz (its : List Value) (lo hi : Option Int) : slicePick its.toArray lo hi none = ((its.drop (HT.sIx its.length 0 lo)).take (HT.sIx its.length its.length hi - HT.sIx its.length 0 lo)).toArray := by
 obtain ⟨h1,h2,h3⟩ := My lo hi its.toArray.size
 unfold slicePick
 rw [h1,h2,h3]
 simp only [sliceRange_one,pick_run,List.size_toArray] <;> rfl
def Jd (K : PySem.W.Frag) : V -> Option Int -> Option Int -> Hp -> VK -> Prop := fun x lo hi H Q => ∃ a xs,x = .ref a /\ An K H a xs /\ ∀ p,H p = none -> Q (.ref p) (upd H p (.lst (A7 xs lo hi)))
theorem MA : Fq X (Jd X.K) := by
 intro pins s σ H x v vl vu lo hi sl Q I rx hs pl pu h
 obtain ⟨a,xs,rfl,hx,q⟩ := h
 cases rx
 obtain ⟨its,r,ht,hz⟩ := I.list hx
 have hlen := r.length
 refine ⟨"list",_,slot_list_getitem.lookup,ht.isList.typeIs,?_⟩
 refine wpAny_getItem_list_slice ht.isList hs pl pu .none (by simp) ?_ (by rw [List.size_toArray] <;> omega)
 rw [Mz,<- hlen]
 refine ⟨.ref s.heap.objs.size,_,I.laid (t' := s.toks) (o := .lst (A7 xs lo hi)) (fun b ob q => Heap.get?_push_of_some _ q) (Nat.le_refl _) ?_,rfl,q _ (I.hok.fresh (Nat.le_refl _))⟩
 exact ⟨Nat.le_trans (Fr xs lo hi) hz,_,0,(r.drop (HT.sIx xs.length 0 lo)).take (HT.sIx xs.length xs.length hi - HT.sIx xs.length 0 lo),Heap.get?_push_size _ rfl⟩
def CJ : V -> Bool
 | .non => true
 | .bl _ => true
 | .int _ => true
 | .str _ => true
 | _ => false
def CK : V -> V -> Bool
 | .non,.non => true
 | .bl a,.bl b => a == b
 | .bl a,.int b => (if a then 1 else 0) == b
 | .int a,.bl b => a == (if b then 1 else 0)
 | .int a,.int b => a == b
 | .str a,.str b => a == b
 | _,_ => false
theorem MB {A : Around} {x : V} (ry : AA y u) (rx : AA x v) (fy : CJ y = true) (fx : CJ x = true) : SeqAt.EqAt A s u v (CK y x) := by
 cases y with
 | non =>
  cases ry
  cases x with
  | non => cases rx; exact SeqAt.EqAt.same _
  | bl b => cases rx; exact SeqAt.EqAt.none_bool b
  | int b => obtain ⟨t,rfl⟩ := rx; exact SeqAt.EqAt.none_int b t
  | str b => obtain ⟨t,rfl⟩ := rx; exact SeqAt.EqAt.none_str b t
  | _ => exact absurd (show false = true from fx) Bool.false_ne_true
 | bl a =>
  cases ry
  cases x with
  | non => cases rx; exact SeqAt.EqAt.bool_none a
  | bl b => cases rx; exact SeqAt.EqAt.bool_bool a b
  | int b => obtain ⟨t,rfl⟩ := rx; exact SeqAt.EqAt.bool_int a b t
  | str b => obtain ⟨t,rfl⟩ := rx; exact SeqAt.EqAt.bool_str a b t
  | _ => exact absurd (show false = true from fx) Bool.false_ne_true
 | int a =>
  obtain ⟨t',rfl⟩ := ry
  cases x with
  | non => cases rx; exact SeqAt.EqAt.int_none a t'
  | bl b => cases rx; exact SeqAt.EqAt.int_bool a t' b
  | int b => obtain ⟨t,rfl⟩ := rx; exact SeqAt.EqAt.int_int a t' b t
  | str b => obtain ⟨t,rfl⟩ := rx; exact SeqAt.EqAt.int_str a t' b t
  | _ => exact absurd (show false = true from fx) Bool.false_ne_true
 | str a =>
  obtain ⟨t',rfl⟩ := ry
  cases x with
  | non => cases rx; exact SeqAt.EqAt.str_none a t'
  | bl b => cases rx; exact SeqAt.EqAt.str_bool a t' b
  | int b => obtain ⟨t,rfl⟩ := rx; exact SeqAt.EqAt.str_int a t' b t
  | str b => obtain ⟨t,rfl⟩ := rx; exact SeqAt.EqAt.str_str a t' b t
  | _ => exact absurd (show false = true from fx) Bool.false_ne_true
 | _ => exact absurd (show false = true from fy) Bool.false_ne_true
def CV (x : V) (u : Value) : Bool := match u with
 | .none => CK .non x
 | .bool b => CK (.bl b) x
 | .int i _ => CK (.int i) x
 | .str z _ => CK (.str z) x
 | _ => false
theorem Je {x : V} (r : AA y u) (f : CJ y = true) : CV x u = CK y x := by
 cases y with
 | non => cases r; rfl
 | bl b => cases r; rfl
 | int i => obtain ⟨t,rfl⟩ := r; rfl
 | str z => obtain ⟨t,rfl⟩ := r; rfl
 | _ => exact absurd (show false = true from f) Bool.false_ne_true
theorem Hg {x : V} : ∀ {xs : List V} {us : List Value},At xs us -> xs.all CJ = true -> us.any (CV x) = xs.any fun y => CK y x
 | _,_,.nil,_ => rfl
 | y :: xs,u :: us,.cons r t,f => by
  rw [List.all_cons,Bool.and_eq_true] at f
  rw [List.any_cons,List.any_cons,Je r f.1,Hg t f.2]
theorem Hi {A : Around} {x : V} (rx : AA x v) (fx : CJ x = true) : ∀ {xs : List V} {us : List Value},At xs us -> xs.all CJ = true -> ∀ u ∈ us,SeqAt.EqAt A s u v (CV x u)
 | _,_,.nil,_ => fun u hu => by cases hu
 | y :: xs,u :: us,.cons r t,f => fun u' hu => by
  rw [List.all_cons,Bool.and_eq_true] at f
  rcases List.mem_cons.mp hu with rfl | hu
  ·rw [Je r f.1]; exact MB r rx f.1 fx
  ·exact Hi rx fx t f.2 u' hu
def BH (x : V) (xs : List V) : Bool := xs.any fun y => CK y x
def Jf (K : PySem.W.Frag) (neg : Bool) : R2 := fun x y H Q => ∃ p xs,y = .ref p /\ (An K H p xs \/ Ac K H p xs) /\ CJ x = true /\ xs.all CJ = true /\ Q (.bl (if neg then !BH x xs else BH x xs)) H
theorem MC : OpR X (compareOp .In) (Jf X.K false) := by
 intro pins s σ H x y v u Q I rx ry h
 obtain ⟨p,xs,rfl,hq,fx,fs,q⟩ := h
 cases ry
 rcases hq with hq | hq
 ·obtain ⟨its,r,pl,hz⟩ := I.list hq
  refine SeqAt.in_listAt (CV x) pl.isList (fun w hw => Hi rx fx r fs w (by simpa using hw)) ⟨.bl _,H,I,rfl,?_⟩
  rw [show its.toArray.any (CV x) = its.any (CV x) by simp,Hg r fs]
  exact q
 ·obtain ⟨its,r,pl,hz⟩ := I.tuple hq
  refine SeqAt.in_tupleAt (CV x) pl (fun w hw => Hi rx fx r fs w (by simpa using hw)) ⟨.bl _,H,I,rfl,?_⟩
  rw [show its.toArray.any (CV x) = its.any (CV x) by simp,Hg r fs]
  exact q
theorem MD : Bx X (.builtin "len") (fun xs H Q => ∃ p ys,xs = [.ref p] /\ (An X.K H p ys \/ Ac X.K H p ys) /\ Q (.int ys.length) H) := by
 intro pins s σ H xs us Q I r h
 obtain ⟨p,ys,rfl,hq,q⟩ := h
 obtain ⟨u,rfl,rx⟩ := EB r
 cases rx
 have hn := EA
 rcases hq with hq | hq
 ·obtain ⟨its,r',pl,hz⟩ := I.list hq
  have hlen := r'.length
  exact Calls.call_len_list pl.isList (by simp only [List.size_toArray] <;> omega) ⟨.int ys.length,H,I.tok _,⟨s.toks + 1,by rw [List.size_toArray,hlen]⟩,q⟩
 ·obtain ⟨its,r',pl,hz⟩ := I.tuple hq
  have hlen := r'.length
  exact len_tuple pl (by simp only [List.size_toArray] <;> omega) ⟨.int ys.length,H,I.tok _,⟨s.toks + 1,by rw [List.size_toArray,hlen]⟩,q⟩
theorem ME : Bx X (.type "tuple") (fun xs H Q => ∃ p ys,xs = [.ref p] /\ ((An X.K H p ys /\ ∀ l,H l = none -> Q (.ref l) (upd H l (.tup ys))) \/ (Ac X.K H p ys /\ Q (.ref p) H))) := by
 intro pins s σ H xs us Q I r h
 obtain ⟨p,ys,rfl,h⟩ := h
 obtain ⟨u,rfl,rx⟩ := EB r
 cases rx
 rcases h with ⟨hq,q⟩ | ⟨hq,q⟩
 ·obtain ⟨its,r',pl,hz⟩ := I.list hq
  have hlen := r'.length
  refine call_tuple_list pl.isList (fun h' kp => ?_) (by simp only [List.size_toArray] <;> omega)
  have I1 : Ae X pins σ H { s with heap := h' } := I.kept (t' := s.toks) kp
  have I2 : Ae X pins σ (upd H h'.objs.size (.tup ys)) { s with heap := h'.push { cls := .type "tuple",data := .seq its.toArray } } :=
   I1.laid (t' := s.toks) (fun b o e => Heap.get?_push_of_some _ e) (Nat.le_refl _) (show ObjOk X.prog X.w _ _ _ (.tup ys) from ⟨hz,its,r',IsTup.new _ _⟩)
  exact ⟨.ref h'.objs.size,_,I2,rfl,q _ (I1.hok.fresh (Nat.le_refl _))⟩
 ·obtain ⟨its,r',pl,hz⟩ := I.tuple hq
  exact call_tuple_same pl ⟨.ref p,H,I,rfl,q⟩
def Jg (K : PySem.W.Frag) (T : String) (x : V) (H : Hp) : Prop := match x with
 | .str _ => T = "str"
 | .int _ => T = "int"
 | .ref p => (T = "list" /\ ∃ xs, An K H p xs) \/ (T = "tuple" /\ ∃ o, K.lookup p = some o /\ o.cls = .type "tuple" /\ o.dict = none) \/
   (T = "dict" /\ ((∃ kvs,H p = some (.dK kvs)) \/ ∃ kvs,H p = some (.dT kvs))) \/ (T = "set" /\ ∃ S n,H p = some (.set S n))
 | _ => False
theorem MG {T : String} {x : V} (I : Ae X pins σ H s) (r : AA x v) (ty : Jg X.K T x H) :
  s.TypeIs v T /\ ∀ a,v = .ref a -> ∃ ob,s.heap.get? a = some ob /\ ob.dict = none := by
 cases x with
 | str z =>
  obtain ⟨t,rfl⟩ := r
  cases (show T = "str" from ty)
  exact ⟨typeIs_str s z t,fun _ e => nomatch e⟩
 | int i =>
  obtain ⟨t,rfl⟩ := r
  cases (show T = "int" from ty)
  exact ⟨typeIs_int s i t,fun _ e => nomatch e⟩
 | ref p =>
  cases r
  rcases ty with ⟨rfl,xs,hq⟩ | ⟨rfl,o,hk,hc,hd⟩ | ⟨rfl,hk⟩ | ⟨rfl,S,n,hk⟩
  ·obtain ⟨its,_,pl,_⟩ := I.list hq
   refine ⟨pl.isList.typeIs,fun a e => ?_⟩
   cases e
   obtain ⟨o,n,e,c,hd,_⟩ := pl
   exact ⟨o,e,hd⟩
  ·refine ⟨⟨o,I.kIn p o hk,hc⟩,fun a e => ?_⟩
   cases e
   exact ⟨o,I.kIn _ o hk,hd⟩
  ·have z : ∃ o,s.heap.get? p = some o /\ o.ExactDict := by
    rcases hk with ⟨kvs,hk⟩ | ⟨kvs,hk⟩
    ·obtain ⟨_,_,_,_,o,_,_,e,ex,_⟩ := I.hok p _ hk
     exact ⟨o,e,ex⟩
    ·obtain ⟨_,_,_,_,o,_,_,e,ex,_⟩ := I.hok p _ hk
     exact ⟨o,e,ex⟩
   obtain ⟨o,e,ex⟩ := z
   refine ⟨⟨o,e,ex.1⟩,fun a e2 => ?_⟩
   cases e2
   exact ⟨o,e,ex.2.1⟩
  ·obtain ⟨o,_,_,_,e,ex,_⟩ := I.hok p _ hk
   refine ⟨⟨o,e,ex.1⟩,fun a e2 => ?_⟩
   cases e2
   exact ⟨o,e,ex.2.1⟩
 | _ => exact False.elim ty
def MH (K : PySem.W.Frag) (T : String) (r : V -> List V -> Hp -> VK -> Prop) (to : TE) (t : TA) : TE := fun σ H Q => to σ H fun x H1 => Jg K T x H1 /\ t σ H1 fun xs H2 => r x xs H2 Q
variable {o e : Expr} {es : List Expr} {to : TE} {t : TA} {name : Str} {apos cpos : Pos} {T id : String} {r : V -> List V -> Hp -> VK -> Prop}
theorem Dj (pa : PlainAttrs T) (slot : Slot T name id) (hty : typeOf (.builtin id) = pure (.type "method_descriptor")) (hm : Mt X id r) (ho : PE X o to) (ha : PA X (e :: es) t)
  (hbase : attributeBase o name X.env (eval o X.env) = eval o X.env := by rfl)
  (hfew : ((backTo cpos (starEach (e :: es) X.env)).all (fun x => !x.1) && (backToKw cpos (keywordEach [] X.env)).all (fun x => x.1.isSome)
   && decide ((e :: es).length + ([] : List Keyword).length + (if ([] : List Keyword).isEmpty then 0 else 1) < 30)) = true := by rfl)
  (hline : (apos.endLine == cpos.line) = true := by rfl) (hs : starEach (e :: es) X.env = (false,eval e X.env) :: starEach es X.env := by rfl) (hplain : (backTo cpos (starEach es X.env)).any (·.1) = false := by rfl) :
  PE X (.Call (.Attribute o name apos) (e :: es) [] cpos) (MH X.K T r to t) := by
 intro pins s σ H Q I h
 refine wpAny_Call_method_late hbase hfew hline rfl (Ao (ho pins s σ H _ I h) fun v s1 ⟨x,H1,I1,r1,ty,q1⟩ => ?_)
 obtain ⟨h1,h2⟩ := MG I1 r1 ty
 refine ⟨T,id,pa,slot,hty,h1,h2,?_⟩
 have hA := ha cpos pins s1 σ H1 _ I1 q1
 rw [hs] at hA ⊢
 refine Calls.callWith_builtin (by show (false || (backTo cpos (starEach es X.env)).any (·.1)) = false; rw [hplain] <;> rfl) (Calls.evalArgs_plain ?_)
 exact Ao hA fun us s2 ⟨vs,H2,I2,r2,q2⟩ => hm pins s2 σ H2 x vs v us Q I2 r1 r2 q2
end
end L2
namespace L2
open PySem PySem.Spec PyProof.Rows
variable {its : List Value} {n t' : Nat}
def MI (X : Cx) (id : String) (r : V -> List V -> Hp -> VK -> Prop) : Prop :=
 ∀ (pins : List (Addr × Obj)) (s : Shared) (σ : St) (H : Hp) (x : V) (xs : List V) (v : Value) (us : List Value) (Q : VK),Ae X pins σ H s -> AA x v -> At xs us -> r x xs H Q ->
  wpAny (model X.prog X.w) X.A (call (.builtin id) (v :: us)) (EP X pins σ Q) X.xe s
theorem At.one : ∀ {x : V} {us : List Value},At [x] us -> ∃ u,us = [u] /\ AA x u
 | _,_,.cons r .nil => ⟨_,rfl,r⟩
theorem At.two : ∀ {x y : V} {us : List Value},At [x,y] us -> ∃ u v,us = [u,v] /\ AA x u /\ AA y v
 | _,_,_,.cons r (.cons q .nil) => ⟨_,_,rfl,r,q⟩
theorem At.rep {xs : List V} {us : List Value} (h : At xs us) : ∀ k : Nat,At (List.replicate k xs).flatten (List.replicate k us).flatten
 | 0 => .nil
 | k + 1 => by
  rw [List.replicate_succ,List.replicate_succ,List.flatten_cons,List.flatten_cons]
  exact At.append h (At.rep h k)
theorem Jh (its : List Value) : ∀ (k : Nat) (acc : List Value),
  List.foldl (fun x1 x2 => x1 ++ x2) acc.toArray (List.replicate k its.toArray) = (acc ++ (List.replicate k its).flatten).toArray
 | 0,acc => by simp
 | k + 1,acc => by
  have e : acc.toArray ++ its.toArray = (acc ++ its).toArray := by simp
  have e2 : (acc ++ its) ++ (List.replicate k its).flatten = acc ++ (List.replicate (k + 1) its).flatten := by
   rw [List.replicate_succ,List.flatten_cons,List.append_assoc]
  rw [<- e2,<- Jh its k (acc ++ its),<- e,List.replicate_succ,List.foldl_cons]
section
variable {X : Cx} {pins : List (Addr × Obj)} {σ : St} {H : Hp} {s : Shared} {l b : Addr} {xs ys zs : List V}
theorem Ae.lset {its' : List Value} {f : Array Value -> Array Value} (I : Ae X pins σ H s) (hH : H l = some (.lst xs))
  (e : s.heap.get? l = some { cls := .type "list",data := .seq its.toArray n }) (hf : f its.toArray = its'.toArray) (hv : At ys its') (hz : ys.length <= sizeLine) :
  Ae X pins σ (upd H l (.lst ys)) { s with heap := s.heap.update l (Obj.mapSeq f),toks := t' } := by
 have q := PySem.IsL.update e f
 rw [hf] at q
 refine I.write (x := l) (e := l) (by rw [hH]; exact trivial) (.inl rfl) (fun b' u hb hu => (Heap.get?_update_other s.heap (Obj.mapSeq f) (Ne.symm hb)).trans hu) ⟨_,q⟩ ?_
 exact ⟨hz,its',_,hv,q⟩
theorem Ae.lnew (I : Ae X pins σ H s) (hv : At ys its) (hz : ys.length <= sizeLine) :
  Ae X pins σ (upd H s.heap.objs.size (.lst ys)) { s with heap := s.heap.push { cls := .type "list",data := .seq its.toArray },toks := t' } :=
 I.laid (fun _ _ q => Heap.get?_push_of_some _ q) (Nat.le_refl _) ⟨hz,its,0,hv,Heap.get?_push_size _ rfl⟩
theorem Ae.fresh (I : Ae X pins σ H s) : H s.heap.objs.size = none := I.hok.fresh (Nat.le_refl _)
theorem Ae.lstM (I : Ae X pins σ H s) (hH : H l = some (.lst xs)) : xs.length <= sizeLine /\ ∃ (its : List Value) (n : Nat),At xs its /\ xs.length = its.length /\ s.heap.get? l = some { cls := .type "list",data := .seq its.toArray n } := by
 obtain ⟨z,its,n,r,e⟩ := I.hok l _ hH
 exact ⟨z,its,n,r,r.length,e⟩
theorem notLongL (h : n <= sizeLine) : Builtin.List.listTooLong n = false := by
 unfold Builtin.List.listTooLong
 exact decide_eq_false (by omega)
end
section
variable {X : Cx}
def MJ : V -> List V -> Hp -> VK -> Prop := fun x vs H Q => ∃ l xs y,x = .ref l /\ vs = [y] /\ H l = some (.lst xs) /\ xs.length < sizeLine /\ Q .non (upd H l (.lst (xs ++ [y])))
theorem Dk : MI X "list.append" MJ := by
 intro pins s σ H x vs v us Q I rx rv h
 obtain ⟨l,xs,y,rfl,rfl,hH,hz,q⟩ := h
 cases rx
 obtain ⟨u,rfl,ru⟩ := rv.one
 obtain ⟨z,its,n,r,hl,e⟩ := I.lstM hH
 refine call_meets F.slot_list_append ⟨_,e,rfl⟩ F.entry_list_append (F.args_list_append_2 _ _) (PySem.list_append l its.toArray n u (by rw [List.size_toArray]; omega)) ⟨e,?_⟩
 refine ⟨.non,_,I.lset (its' := its ++ [u]) hH e (by simp) (r.append (.cons ru .nil)) ?_,rfl,q⟩
 rw [List.length_append,List.length_singleton]
 omega
def MK : R2 := fun x y H Q => ∃ l b xs zs,x = .ref l /\ y = .ref b /\ H l = some (.lst xs) /\ H b = some (.lst zs) /\ xs.length + zs.length <= sizeLine /\ ∀ p,H p = none -> Q (.ref p) (upd H p (.lst (xs ++ zs)))
theorem ML : OpR X (binaryOp .Add) MK := by
 intro pins s σ H x y v u Q I rx ry h
 obtain ⟨l,b,xs,zs,rfl,rfl,hH,hB,hz,q⟩ := h
 cases rx
 cases ry
 obtain ⟨z,its,n,r,hl,e⟩ := I.lstM hH
 obtain ⟨z2,its2,n2,r2,hl2,e2⟩ := I.lstM hB
 refine PySem.P.add_list e e2 ?_ (by rw [List.size_toArray,List.size_toArray]; omega)
 have ea : its.toArray ++ its2.toArray = (its ++ its2).toArray := by simp
 rw [ea]
 exact ⟨.ref _,_,I.lnew (t' := s.toks) (r.append r2) (by rw [List.length_append]; omega),rfl,q _ I.fresh⟩
theorem Ji {α : Type} (xs : List α) (k : Nat) : (List.replicate k xs).flatten.length = k * xs.length := by
 induction k with
 | zero => simp
 | succ k ih => rw [List.replicate_succ,List.flatten_cons,List.length_append,ih,Nat.succ_mul,Nat.add_comm]
end
section
variable {prog : Program} {w : World} {A : Around} {E : Value -> Shared -> Prop} {s : Shared}
end
section
variable {X : Cx}
end
end L2
namespace Att
open PySem PySem.W PySem.Calls PyProof.Rows
theorem MM {P : Params} {h : Heap} : ∀ (ns : List Int) (vs : List Value),WellAll P h vs (ns.map WData.int) -> IntsAre vs ns := by
 intro ns
 induction ns with
 | nil =>
  intro vs w
  rw [List.map_nil] at w
  cases w
  exact .nil
 | cons n ns ih =>
  intro vs w
  rw [List.map_cons] at w
  cases w with
  | cons a b =>
   cases a
   exact .cons _ _ (ih _ b)
theorem MN {l : OpenLaw} {n : Nat} (hn : l.most = some n) {P : Params} {h : Heap} {args : List WData} {vals : List Value}
    (hpre : l.row.toRowW.claim.pre args = true) (hwl : WellAll P h vals args) :
    ∃ a vs ns,vals = [Value.ref a] /\ args = [WData.list (ns.map WData.int)] /\ h.get? a = some { cls := .type "list",data := .seq vs.toArray } /\ IntsAre vs ns /\ ns.length <= n := by
  have hsh : WShape.hasAll [] args [.list .int] = true := (pre_splitW hpre).1
  have hc : l.pre.holds [] { args := args } = true := (pre_splitW hpre).2
  obtain ⟨d,r,rfl,h1,h2⟩ := hasAllW_cons hsh
  obtain rfl := hasAllW_nil h2
  obtain ⟨xs,rfl,h3⟩ := hasW_list h1
  obtain ⟨ns,rfl⟩ := items_int h3
  have hlen : ns.length <= n := by
    unfold OpenLaw.pre at hc
    have h4 : (WTm.not (.lt (.lit (.int (n : Int))) (.len (.arg 0)))).holds [] { args := [.list (ns.map .int)] } = true := by
      have h4 := (holds_andW hc).1
      rw [hn] at h4
      exact h4
    have h5 := condW_of h4 (w_not (w_lt w_lit (w_len_list (w_arg rfl))))
    rw [List.length_map] at h5
    refine Nat.le_of_not_lt fun q => ?_
    have q' : (n : Int) < ((ns.length : Nat) : Int) := by omega
    first
      | (rw [decide_eq_true q'] at h5; exact absurd h5 (by decide))
      | (simp at h5; omega)
  cases hwl with
  | cons w1 w2 =>
    cases w2
    cases w1 with
    | list ho hall => exact ⟨_,_,ns,rfl,rfl,ho,MM ns _ hall,hlen⟩
theorem MO (l : OpenLaw) (args : List WData) : l.row.toRowW.claim.post args (.bool true) args = true :=
 postW_of (r := l.row.toRowW) (X := (true == true))
  (show WShape.has [] (.bool true) .bool = true by first | rfl | decide | simp [WShape.has,WShape.arms,WShape.armsAll])
  (show (WTm.eq .res (.lit (.bool true))).value [] { args := args,res := some (.bool true),after := args } = some (.bool (true == true)) from w_eq_bool (w_res rfl) w_lit) rfl
theorem attach_call {l : OpenLaw} {n : Nat} {q : Program} {loose : List Str} {XP : (Str -> Option Value) -> Heap -> Prop} {YP : World -> Heap -> Prop} {d : DefRec}
  (hn : l.most = some n) (hdf : d.params.defaults = [])
  (call : ∀ (w : World) (s₀ s₁ : Shared) (mg mb : Str -> Option Value) (fa : Addr) (o : Obj) (pm cd doc : Value) (a : Addr) (vs : List Value) (ns : List Int),
   Ground q loose [] XP w s₀ mg mb s₁.heap -> YP w s₁.heap ->
   s₁.heap.get? fa = some o -> o.data = .func (docDef d.name d.params d.body d.scope pm cd doc) -> s₁.heap.CodeRec cd d.name -> mg d.name = some (.ref fa) ->
   s₁.heap.get? a = some { cls := .type "list",data := .seq vs.toArray } -> IntsAre vs ns -> ns.length <= n -> s₁.gens = #[] ->
   codeAny (model l.prog w) callerA (.call (.ref fa) ⟨[.ref a],[]⟩) (fun r s' => r = .ok (.ret (.bool true)) /\ OldK s₁.heap s'.heap /\ s'.os = s₁.os /\ AllBare s'.gens) s₁) :
  WalkO q loose XP YP l.row.toRowW d [] (fun f vs => PySem.call f vs) := by
 intro w s₀ s₁ mg mb G Y fa o pm cd doc dV kV ho hd hcd hD hmg hg args vals as hpre hlay hrd hwl hlo
 obtain rfl : dV = .none := Dflts.none hD hdf
 obtain rfl : kV = .none := Dflts.noKw hD
 obtain ⟨a,vs,ns,rfl,rfl,hobj,hints,hlen⟩ := MN hn hpre hwl
 refine enter_call (codeAny_mono (call w s₀ s₁ mg mb fa o pm cd doc a vs ns G Y ho (fd_plain hd) hcd hmg hobj hints hlen hg) fun r s' hq => ?_)
 obtain ⟨rfl,h2,h3,h4⟩ := hq
 exact ⟨.inl ⟨.bool true,.bool true,[],rfl,fun _ => rfl,.bool true,MO l _,fun _ => ⟨List.Pairwise.nil,fun _ hm => (nomatch hm)⟩⟩,h2,h3,h4⟩
section
variable {prog : Program} {w : World} {A : Around} {E : Value -> Shared -> Prop} {s : Shared} {K : Frag}
end
end Att
namespace L2
open PySem PySem.Spec PyProof.Rows
theorem Jj : ∀ {vs : List Value} {ns : List Int},IntsAre vs ns -> At (ns.map V.int) vs
 | _,_,.nil => .nil
 | _,_,.cons n t h => .cons ⟨t,rfl⟩ (Jj h)
def Ft (H : Hp) : Prop := ∀ b,H b = none \/ ∃ o xs,H b = some (.frz o (.lst xs))
theorem MP {P : Program} {w : World} {K : PySem.W.Frag} {mg mb : Str -> Option Value} {CX : B7} {k : Nat} {fa a : Addr} {fd : FuncData} {x : Str} {sp : Sp} {s₁ : Shared} {vs : List Value} {ns : List Int}
  (KX : K.In s₁.heap) (hns : s₁.heap.Ns mainGlobals mg) (hb : s₁.heap.Ns builtinsNs mb) (hbb : ∀ x : Str,x ≠ "__name__" -> mb x = bootBuiltins x) (hlim : s₁.heap.NoLimit) (hg : s₁.gens = #[])
  (ha : s₁.heap.get? a = some { cls := .type "list",data := .seq vs.toArray }) (hi : IntsAre vs ns) (hl : ns.length <= sizeLine) (hr : Be k callerA)
  (F : ∀ base : Heap,K.In base -> base.Ns mainGlobals mg -> Cy P w K mg base CX k fa fd [x] sp) (hbind : ∀ (s : Shared) (u : Value),BindsTo s fd ⟨[u],[]⟩ [(x,u)])
  (hsp : ∀ H : Hp,Ft H -> An K H a (ns.map V.int) -> sp [.ref a] H (fun v _ => v = .bl true) fun _ _ _ => False)
  (hCX : ∀ H e s',CX [] H s₁ (fun _ _ _ => False) e s' -> False) :
  codeAny (model P w) callerA (.call (.ref fa) ⟨[.ref a],[]⟩) (fun r s' => r = .ok (.ret (.bool true)) /\ OldK s₁.heap s'.heap /\ s'.os = s₁.os /\ AllBare s'.gens) s₁ := by
 have rv := Jj hi
 have lenV := hi.length
 -- from an abstract heap in which nothing but the script may be tracked
 have core : ∀ H : Hp,Ft H -> An K H a (ns.map V.int) -> HOk P w H s₁.heap -> (∀ b,H b ≠ none -> b = a) -> (H a ≠ none -> K.lookup a = none) ->
   codeAny (model P w) callerA (.call (.ref fa) ⟨[.ref a],[]⟩) (fun r s' => r = .ok (.ret (.bool true)) /\ OldK s₁.heap s'.heap /\ s'.os = s₁.os /\ AllBare s'.gens) s₁ := by
  intro H hO hS hok hA hK
  have base_of : ∀ {b : Addr} {o : Obj},s₁.heap.get? b = some o -> H b = none -> (CT s₁.heap H).get? b = some o := fun e n => Ls e n
  have noA : ∀ {b : Addr} {o : Obj} {es : Array DictEntry} {ep : Nat},s₁.heap.get? b = some o -> o.data = .dict es ep -> H b = none := fun {b o es ep} e d => by
   cases q : H b with
   | none => rfl
   | some u =>
    have e' : b = a := hA b (by rw [q]; simp)
    subst e'
    rw [ha] at e; cases e
    have d' : Data.seq vs.toArray _ = Data.dict es ep := d
    cases d'
  have nsK : ∀ {b : Addr} {m : Str -> Option Value},s₁.heap.Ns b m -> (CT s₁.heap H).Ns b m := fun {b m} ⟨o,es,ep,e,d,r⟩ => ⟨o,es,ep,base_of e (noA e d),d,r⟩
  have hKb : K.In (CT s₁.heap H) := fun b o e => base_of (KX b o e) (by
   cases q : H b with
   | none => rfl
   | some u =>
    have e' : b = a := hA b (by rw [q]; simp)
    subst e'
    rw [hK (by rw [q]; simp)] at e; cases e)
  have hM : Mod K mg (CT s₁.heap H) := ⟨hKb,nsK hns,⟨mb,nsK hb,hbb⟩,let ⟨mc,h1,h2⟩ := hlim; ⟨mc,nsK h1,h2⟩⟩
  have e0 : DZ P w K mg (CT s₁.heap H) callerA [] s₁ H := ⟨rfl,hM,fun b o e => Lu e,Nat.le_of_eq (Lr _ _),trivial,fun b hb => absurd (show b ∈ ([] : List Addr) from hb) (by simp),hok,.of_eq hg⟩
  refine codeAny_mono ((F _ hKb (nsK hns)).run callerA [] s₁ H ⟨[.ref a],[]⟩ [.ref a] [.ref a] _ _ hr e0 (hbind s₁ (.ref a)) (.cons rfl .nil) (hsp H hO hS)) fun r s' h => ?_
  cases r with
  | error e => exact (hCX H e s' h).elim
  | ok fl =>
   cases fl with
   | next => exact False.elim h
   | brk => exact False.elim h
   | cont => exact False.elim h
   | ret u =>
    obtain ⟨v,H',os,bare,un,hok',r',q⟩ := h
    have q' : v = .bl true := q
    subst q'
    obtain rfl : u = Value.bool true := r'
    refine ⟨rfl,OldK.of_keep fun b o e => ?_,os,bare⟩
    cases q : H b with
    | none => exact un.keep b o e q (by intro z; exact absurd (show b ∈ ([] : List Addr) from z) (by simp)) (by simp)
    | some u =>
     rcases hO b with z | ⟨ob,xs,z⟩
     ·rw [q] at z; cases z
     ·have z2 := un.frzs b ob _ z
      obtain ⟨e1,_⟩ := hok b _ z
      obtain ⟨e2,_⟩ := hok' b _ z2
      rw [e] at e1; cases e1
      exact e2
 cases hk : K.lookup a with
 | some o =>
  -- the script is one of the module's own objects
  have e := KX a o hk
  rw [ha] at e
  cases e
  refine core (fun _ => none) (fun _ => .inl rfl) (.inr ⟨_,vs.toArray,_,hk,rfl,rfl,rfl,by rw [List.size_toArray,lenV]; exact hl,by simpa using rv⟩) (fun b u z => by have z' : (none : Option HO) = some u := z; cases z') (fun b z => absurd rfl z) fun z => absurd rfl z
 | none =>
  refine core (fun b => if b = a then some (.frz { cls := .type "list",data := .seq vs.toArray } (.lst (ns.map V.int))) else none) (fun b => ?_) (.inl (.inr ⟨{ cls := .type "list",data := .seq vs.toArray },if_pos rfl⟩)) (fun b u z => ?_) (fun b z => ?_) fun _ => hk
  ·by_cases hb : b = a
   ·exact .inr ⟨_,_,if_pos hb⟩
   ·exact .inl (if_neg hb)
  ·by_cases hb : b = a
   ·have z' := (if_pos hb).symm.trans z
    cases z'
    subst hb
    exact ⟨ha,by rw [List.length_map]; exact hl,vs,_,rv,ha⟩
   ·have z' := (if_neg hb).symm.trans z
    cases z'
  ·by_cases hb : b = a
   ·exact hb
   ·exact absurd (if_neg hb) z
end L2
namespace L2
open PySem PySem.Spec PyProof.Rows
theorem MQ {l : PySem.W.OpenLaw} {n k : Nat} {q : Program} {loose : List Str} {XP : (Str -> Option Value) -> Heap -> Prop} {YP : World -> Heap -> Prop} {d : DefRec} {K : Params -> PySem.W.Frag} {CX : World -> B7} {sp : World -> Sp} {x : Str}
  (hn : l.most = some n) (hn2 : n <= sizeLine) (hdf : d.params.defaults = []) (hr : Be k callerA)
  (hY : ∀ (w : World) (h : Heap),YP w h -> (K w.params).In h)
  (F : ∀ (w : World) (mg : Str -> Option Value) (fa : Addr) (h : Heap), (K w.params).In h -> h.Ns mainGlobals mg -> mg d.name = some (.ref fa) ->
   ∃ fd : FuncData,(∀ (s : Shared) (u : Value),BindsTo s fd ⟨[u],[]⟩ [(x,u)]) /\
    ∀ base : Heap,(K w.params).In base -> base.Ns mainGlobals mg -> Cy l.prog w (K w.params) mg base (CX w) k fa fd [x] (sp w))
  (hsp : ∀ (w : World) (H : Hp) (a : Addr) (ns : List Int),ns.length <= n -> Ft H -> An (K w.params) H a (ns.map V.int) -> sp w [.ref a] H (fun v _ => v = .bl true) fun _ _ _ => False)
  (hCX : ∀ (w : World) (H : Hp) (s : Shared) (e : Value) (s' : Shared),CX w [] H s (fun _ _ _ => False) e s' -> False) :
  PySem.W.WalkO q loose XP YP l.row.toRowW d [] (fun f vs => PySem.call f vs) := by
 refine Att.attach_call hn hdf fun w s₀ s₁ mg mb fa o pm cd doc a vs ns G Y ho hd hcd hmg hobj hints hlen hg => ?_
 have KX := hY w _ Y
 obtain ⟨fd,hb,hF⟩ := F w mg fa _ KX G.T.g hmg
 exact MP KX G.T.g G.T.b G.T.builtins G.T.nolimit hg hobj hints (Nat.le_trans hlen hn2) hr hF hb (fun H hO hS => hsp w H a ns hlen hO hS) fun H e s' => hCX w H s₁ e s'
theorem walk_ofK {l : PySem.W.OpenLaw} {n k : Nat} {q : Program} {loose : List Str} {XP : (Str -> Option Value) -> Heap -> Prop} {YP : World -> Heap -> Prop} {d : DefRec} {K : Params -> PySem.W.Frag} {CX : B7} {sp : PySem.W.Frag -> Sp} {x : Str}
  (hn : l.most = some n) (hn2 : n <= sizeLine) (hdf : d.params.defaults = []) (hr : Be k callerA)
  (hY : ∀ (w : World) (h : Heap),YP w h -> (K w.params).In h)
  (F : ∀ (w : World) (mg : Str -> Option Value) (fa : Addr) (h : Heap), (K w.params).In h -> h.Ns mainGlobals mg -> mg d.name = some (.ref fa) ->
   ∃ fd : FuncData,(∀ (s : Shared) (u : Value),BindsTo s fd ⟨[u],[]⟩ [(x,u)]) /\
    ∀ base : Heap,(K w.params).In base -> base.Ns mainGlobals mg -> Cy l.prog w (K w.params) mg base CX k fa fd [x] (sp (K w.params)))
  (hsp : ∀ (K : PySem.W.Frag) (H : Hp) (a : Addr) (ns : List Int),ns.length <= n -> Ft H -> An K H a (ns.map V.int) -> sp K [.ref a] H (fun v _ => v = .bl true) fun _ _ _ => False)
  (hCX : ∀ (H : Hp) (s : Shared) (e : Value) (s' : Shared),CX [] H s (fun _ _ _ => False) e s' -> False) :
  PySem.W.WalkO q loose XP YP l.row.toRowW d [] (fun f vs => PySem.call f vs) :=
 MQ (K := K) (CX := fun _ => CX) (sp := fun w => sp (K w.params)) hn hn2 hdf hr hY F (fun w H a ns h1 h2 h3 => hsp (K w.params) H a ns h1 h2 h3) fun _ H s e s' => hCX H s e s'
end L2
namespace L2
open PySem PySem.Spec PyProof.Rows
variable {qual : Str} {fd : FuncData} {ps : List Str} {H H' : Hp}
def BZ (s : Stmt) : Arguments := match s with
 | .FunctionDef _ a _ _ _ _ _ _ _ _ => a
 | _ => { posonlyargs := [],args := [],vararg := none,kwonlyargs := [],kw_defaults := [],kwarg := none,defaults := [] }
def BI (s : Stmt) : List Stmt := match s with
 | .FunctionDef _ _ b _ _ _ _ _ _ _ => b
 | _ => []
def Ar (s : Stmt) : Scope := match s with
 | .FunctionDef _ _ _ _ _ _ sc _ _ _ => sc
 | _ => { kind := .function,names := [],isGenerator := false,isCoroutine := false }
abbrev CX0 : B7 := fun _ _ _ _ _ _ => False
abbrev E0 : XK := fun _ _ _ => False
theorem MR {X : Cx} : Hf CX0 X E0 := fun _ _ _ _ _ _ _ h => h.elim
structure DC (K : PySem.W.Frag) (x qual : Str) (st : Stmt) (f : Addr) (fd : FuncData) : Prop where
 ex : ∃ (oc : Value) (od : Option Addr) (kV doc pm : Value) (an : Option Addr) (cdv ct : Value) (osl : Array (Option Value)),
  fd = PySem.W.fnOf x qual (BZ st) (BI st) (Ar st) .none kV doc pm an cdv ct /\ K.lookup f = some ⟨oc,od,.func fd,osl⟩ /\ PySem.W.codeIn K cdv qual = true
 kp : PySem.W.keepIn K (.ref f) = true
section
variable {P : Program} {w : World} {K : PySem.W.Frag} {mg : Str -> Option Value} {base : Heap}
theorem DC.ok {x : Str} {st : Stmt} {f : Addr} {N : List Str} {k : Nat} {sp : Sp} (F : DC K x qual st f fd) (S : Av N ps (Ar st)) (len : ∀ vs H Q E,sp vs H Q E -> vs.length = ps.length)
  (hbody : ∀ (cdv : Value) (A : Around) (outer : List Env) (s : Shared) (H : Hp) (vs : List V) (Q : VK) (E : XK), Be k (A.deeper (envOfC qual (Ar st) s.heap.objs.size f cdv)) -> sp vs H Q E ->
   ∃ t,PSs (DB CX0 P w K mg base N qual (Ar st) f cdv A outer s H E).nox (BI st) t /\ t { nx := fun _ H' => Q .non H',rt := Q } (start N vs) H) : Cy P w K mg base CX0 (k + 1) f fd ps sp := by
 obtain ⟨oc,od,kV,doc,pm,an,cdv,ct,osl,rfl,lk,hcd⟩ := F.ex
 refine Mh lk hcd S len fun A outer s H vs Q E hr hsp => ?_
 obtain ⟨t,h,q⟩ := hbody cdv A outer s H vs Q E hr hsp
 exact ⟨t,h.nox,q⟩
theorem DC.binds {x : Str} {st : Stmt} {f : Addr} (F : DC K x qual st f fd)
  (h : ∀ (kV doc pm : Value) (an : Option Addr) (cdv ct : Value) (us : List Value),us.length = ps.length -> bindArgs (PySem.W.fnOf x qual (BZ st) (BI st) (Ar st) .none kV doc pm an cdv ct) ⟨us,[]⟩ = pure (ps.zip us)) : Binds K fd ps [] := by
 obtain ⟨oc,od,kV,doc,pm,an,cdv,ct,osl,rfl,lk,hcd⟩ := F.ex
 exact .all (h kV doc pm an cdv ct)
theorem Hj {x : Str} {st : Stmt} {f : Addr} {oc : Value} {od an : Option Addr} {osl : Array (Option Value)} {kV doc pm cdv ct : Value} (l : K.lookup f = some ⟨oc,od,.func (PySem.W.fnOf x qual (BZ st) (BI st) (Ar st) .none kV doc pm an cdv ct),osl⟩)
  (c : PySem.W.codeIn K cdv qual = true) (k : PySem.W.keepIn K (.ref f) = true) : DC K x qual st f (PySem.W.fnOf x qual (BZ st) (BI st) (Ar st) .none kV doc pm an cdv ct) := ⟨⟨oc,od,kV,doc,pm,an,cdv,ct,osl,rfl,l,c⟩,k⟩
end
theorem MS {n : Nat} (h : n <= 1000) : n < sizeLine := Nat.lt_of_le_of_lt h (by decide)
section
variable {X : Cx}
theorem pv (i : Nat) {x : Str} {pos : Pos} (hN : X.N[i]? = some x := by rfl) (hv : DU X.env.scope x := by first | exact Or.inl rfl | exact Or.inr (Or.inl rfl) | exact Or.inr (Or.inr rfl)) (hd : (x == ("__debug__" : Str)) = false := by decide)
  (hcd : (x == ("__classdict__" : Str)) = false := by decide) : PE X (.Name x pos) (Iu i) := Iv hN hv hd hcd
end
def Ab (H H' : Hp) : Prop := ∀ b o,H b = some o -> H' b = some o
theorem Ab.refl (H : Hp) : Ab H H := fun _ _ h => h
theorem Ab.trans {H1 H2 : Hp} (a : Ab H H1) (b : Ab H1 H2) : Ab H H2 := fun c o h => b c o (a c o h)
theorem Ab.free (e : Ab H H') {l : Addr} (h : H' l = Option.none) : H l = Option.none := by
 cases q : H l with
 | none => rfl
 | some o =>
  rw [e l o q] at h
  cases h
theorem Ab.seq {K : PySem.W.Frag} {a : Addr} {xs : List V} (e : Ab H H') (h : An K H a xs) : An K H' a xs := by
 rcases h with (h | ⟨o,h⟩) | h
 ·exact .inl (.inl (e _ _ h))
 ·exact .inl (.inr ⟨o,e _ _ h⟩)
 ·exact .inr h
end L2
end
section
namespace L2
open PySem PySem.Spec PyProof.Rows
def Bj (cs : List (Str × Addr)) : List (Str × NameKind) -> List (Str × Addr) -> List (Str × Addr)
  | [],acc => acc
  | (n,k) :: r,acc => if k == .free then (match cs.lookup n with | some a => Bj cs r ((n,a) :: acc) | none => Bj cs r acc) else Bj cs r acc
theorem Hk {env : Env} : ∀ (names : List (Str × NameKind)) (acc : List (Str × Addr)),(∀ y ∈ names,y.2 = .free -> ∃ c,env.cells.lookup y.1 = some c) ->
    (forIn names acc (fun (p : Str × NameKind) (cs : List (Str × Addr)) => do
      if (p.2 == NameKind.free) = true then do
        let a <- cellOf env p.1
        pure (ForInStep.yield ((p.1,a) :: cs))
      else pure (ForInStep.yield cs)) : Sem (List (Str × Addr))) = pure (Bj env.cells names acc)
  | [],acc,_ => rfl
  | (n, k) :: r, acc, h => by
    rw [List.forIn_cons]
    by_cases hk : (k == NameKind.free) = true
    . obtain ⟨c,hc⟩ := h (n,k) List.mem_cons_self (by simpa using hk)
      have hc' : env.cells.lookup n = some c := hc
      simp only [hk,if_true,cellOf,hc',Bj]
      exact Hk r _ fun y hy => h y (List.mem_cons_of_mem _ hy)
    . have hk' : (k == NameKind.free) = false := by simpa using hk
      simp only [hk',Bool.false_eq_true,if_false,Bj]
      exact Hk r _ fun y hy => h y (List.mem_cons_of_mem _ hy)
theorem Jk {env : Env} {scope : Scope} (h : ∀ y ∈ scope.names,y.2 = .free -> ∃ c,env.cells.lookup y.1 = some c) : closureFor scope env = pure (Bj env.cells scope.names []) := by
 have q := Hk (env := env) scope.names [] h
 unfold closureFor
 simp only []
 have e : (forIn scope.names ([] : List (Str × Addr)) (fun (p : Str × NameKind) (cs : List (Str × Addr)) => do
   if (p.2 == NameKind.free) = true then do
    let a <- cellOf env p.1
    pure (ForInStep.yield ((p.1,a) :: cs))
   else pure (ForInStep.yield cs)) : Sem (List (Str × Addr))) >>= (fun cs => pure cs) = pure (Bj env.cells scope.names []) := by rw [q]; rfl
 exact e
theorem DD {cs : List (Str × Addr)} {x : Str} {c : Addr} : ∀ (names : List (Str × NameKind)) (acc : List (Str × Addr)),(Bj cs names acc).lookup x = some c -> cs.lookup x = some c \/ acc.lookup x = some c
  | [],_,h => .inr h
  | (n, k) :: r, acc, h => by
    unfold Bj at h
    split at h
    . cases hc : cs.lookup n with
      | none => rw [hc] at h; exact DD r acc h
      | some a =>
        rw [hc] at h
        rcases DD r _ h with q | q
        . exact .inl q
        . rw [List.lookup_cons] at q
          cases hx : x == n with
          | true => rw [hx] at q; rw [beq_iff_eq.mp hx,hc]; exact .inl q
          | false => rw [hx] at q; exact .inr q
    . exact DD r acc h
theorem Fu {cs : List (Str × Addr)} {x : Str} {c : Addr} (hc : cs.lookup x = some c) : ∀ (names : List (Str × NameKind)) (acc : List (Str × Addr)),acc.lookup x = some c -> (Bj cs names acc).lookup x = some c
  | [],_,h => h
  | (n, k) :: r, acc, h => by
    unfold Bj
    split
    . cases hn : cs.lookup n with
      | none => exact Fu hc r acc h
      | some a =>
        refine Fu hc r _ ?_
        rw [List.lookup_cons]
        cases hx : x == n with
        | true => rw [beq_iff_eq.mp hx,hn] at hc; exact hc
        | false => exact h
    . exact Fu hc r acc h
theorem EE {cs : List (Str × Addr)} {x : Str} {c : Addr} (hc : cs.lookup x = some c) : ∀ (names : List (Str × NameKind)) (acc : List (Str × Addr)),(x,NameKind.free) ∈ names -> (Bj cs names acc).lookup x = some c
  | [],_,h => nomatch h
  | (n, k) :: r, acc, h => by
    unfold Bj
    rcases List.mem_cons.mp h with e | h
    . cases e
      simp only [beq_self_eq_true,if_true,hc]
      exact Fu hc r _ (by simp [List.lookup_cons])
    . split
      . cases hn : cs.lookup n with
        | none => exact EE hc r acc h
        | some a => exact EE hc r _ h
      . exact EE hc r acc h
theorem D0 {x : Str} {c : Addr} : ∀ (names : List (Str × NameKind)) (n : Nat) (acc : List (Str × Addr)),(cellsFrom n names acc).lookup x = some c -> n <= c \/ acc.lookup x = some c
  | [],_,_,h => .inr h
  | (y, k) :: r, n, acc, h => by
    unfold cellsFrom at h
    split at h
    . rcases D0 r (n + 1) _ h with q | q
      . exact .inl (by omega)
      . rw [List.lookup_cons] at q
        cases hx : x == y with
        | true => rw [hx] at q; cases q; exact .inl (Nat.le_refl _)
        | false => rw [hx] at q; exact .inr q
    . exact D0 r n acc h
theorem Hl {x : Str} {c : Addr} {lo : Nat} : ∀ (names : List (Str × NameKind)) (n : Nat) (acc : List (Str × Addr)),lo <= n -> ((x,NameKind.cell) ∈ names \/ ∀ c,acc.lookup x = some c -> lo <= c) -> (cellsFrom n names acc).lookup x = some c -> lo <= c
  | [],_,_,_,hm,h => hm.elim (fun z => nomatch z) fun z => z c h
  | (y, k) :: r, n, acc, hl, hm, h => by
    unfold cellsFrom at h
    split at h
    . rename_i hk
      refine Hl r (n + 1) _ (by omega) ?_ h
      by_cases hx : x = y
      . refine .inr fun c' q => ?_
        rw [List.lookup_cons,hx,beq_self_eq_true] at q
        cases q; exact hl
      . rcases hm with hm | hm
        . rcases List.mem_cons.mp hm with e | hm
          . cases e; exact absurd rfl hx
          . exact .inl hm
        . refine .inr fun c' q => hm c' ?_
          rw [List.lookup_cons,beq_eq_false_iff_ne.mpr hx] at q
          exact q
    . rename_i hk
      refine Hl r n acc hl ?_ h
      rcases hm with hm | hm
      . rcases List.mem_cons.mp hm with e | hm
        . cases e; exact absurd rfl hk
        . exact .inl hm
      . exact .inr hm
theorem Hm {x : Str} {c : Addr} : ∀ (names : List (Str × NameKind)) (n : Nat) (acc : List (Str × Addr)),(x,NameKind.cell) ∉ names -> acc.lookup x = some c -> (cellsFrom n names acc).lookup x = some c
  | [],_,_,_,h => h
  | (y, k) :: r, n, acc, hm, h => by
    have hm' : (x,NameKind.cell) ∉ r := fun z => hm (List.mem_cons_of_mem _ z)
    unfold cellsFrom
    split
    . rename_i hk
      refine Hm r (n + 1) _ hm' ?_
      rw [List.lookup_cons]
      cases hx : x == y with
      | true =>
        have e1 : k = NameKind.cell := by simpa using hk
        exact absurd (by rw [beq_iff_eq.mp hx,e1]; exact List.mem_cons_self) hm
      | false => exact h
    . exact Hm r n acc hm' h
theorem Hn {x : Str} : ∀ (names : List (Str × NameKind)) (n : Nat) (acc : List (Str × Addr)),((x,NameKind.cell) ∈ names \/ ∃ c,acc.lookup x = some c) -> ∃ c,(cellsFrom n names acc).lookup x = some c
  | [],_,_,hm => hm.elim (fun z => nomatch z) fun z => z
  | (y, k) :: r, n, acc, hm => by
    unfold cellsFrom
    split
    . rename_i hk
      refine Hn r (n + 1) _ ?_
      by_cases hx : x = y
      . exact .inr ⟨n,by rw [hx,List.lookup_cons,beq_self_eq_true]⟩
      . rcases hm with hm | ⟨c,hm⟩
        . rcases List.mem_cons.mp hm with e | hm
          . cases e; exact absurd rfl hx
          . exact .inl hm
        . exact .inr ⟨c,by rw [List.lookup_cons,beq_eq_false_iff_ne.mpr hx]; exact hm⟩
    . rename_i hk
      refine Hn r n acc ?_
      rcases hm with hm | hm
      . rcases List.mem_cons.mp hm with e | hm
        . cases e; exact absurd rfl hk
        . exact .inl hm
      . exact .inr hm
theorem Ho : ∀ (names : List (Str × NameKind)) (n : Nat) (acc : List (Str × Addr)),(∀ x c,acc.lookup x = some c -> c < n) -> (∀ x y c,acc.lookup x = some c -> acc.lookup y = some c -> x = y) ->
    ∀ x y c,(cellsFrom n names acc).lookup x = some c -> (cellsFrom n names acc).lookup y = some c -> x = y
  | [],_,_,_,hi => hi
  | (z, k) :: r, n, acc, hb, hi => by
    unfold cellsFrom
    split
    . refine Ho r (n + 1) _ (fun x c q => ?_) fun x y c q q' => ?_
      . rw [List.lookup_cons] at q
        cases hx : x == z with
        | true => rw [hx] at q; cases q; exact Nat.lt_succ_self _
        | false => rw [hx] at q; exact Nat.lt_succ_of_lt (hb x c q)
      . rw [List.lookup_cons] at q q'
        cases hx : x == z with
        | true =>
          rw [hx] at q; cases q
          cases hy : y == z with
          | true => rw [beq_iff_eq.mp hx,beq_iff_eq.mp hy]
          | false => rw [hy] at q'; exact absurd (hb y _ q') (Nat.lt_irrefl _)
        | false =>
          rw [hx] at q
          cases hy : y == z with
          | true => rw [hy] at q'; cases q'; exact absurd (hb x _ q) (Nat.lt_irrefl _)
          | false => rw [hy] at q'; exact hi x y c q q'
    . exact Ho r n acc hb hi
theorem Hq : ∀ (names : List (Str × NameKind)) (h : Heap) (acc : List (Str × Addr)) {x : Str} {c : Addr},(cellsFrom h.objs.size names acc).lookup x = some c -> (pushCells h names).IsCell c none \/ acc.lookup x = some c
  | [],_,_,_,_,q => .inr q
  | (z, k) :: r, h, acc, x, c, q => by
    unfold cellsFrom at q
    unfold pushCells
    split at q
    . rename_i hk
      rw [if_pos hk]
      have e : (h.push { cls := .type "cell",data := .cell none }).objs.size = h.objs.size + 1 := Heap.size_push ..
      rw [<- e] at q
      rcases Hq r _ _ q with q | q
      . exact .inl q
      . rw [List.lookup_cons] at q
        cases hx : x == z with
        | true =>
          rw [hx] at q; cases q
          refine .inl ?_
          have w : (h.push { cls := .type "cell",data := .cell none }).IsCell h.objs.size none := ⟨_,Heap.get?_push_size _ rfl,rfl⟩
          exact w.keeps (pushCells_keeps r _)
        | false => rw [hx] at q; exact .inr q
    . rename_i hk
      rw [if_neg hk]
      exact Hq r h acc q
def Hr (scope : Scope) (env : Env) (C : Addr) : Env :=
  { scope := relabel scope env,locals := C,globals := env.globals,cells := cellsFrom (C + 1) scope.names (Bj env.cells scope.names []),qual := env.qual,func := none,code := env.code,frame := env.frame,builtins := env.builtins }
theorem Jl {M : Model} {A : Around} {E : Value -> Shared -> Prop} {s : Shared} {scope : Scope} {env : Env} {cl : List (Str × Addr)} {Q : Env -> Shared -> Prop}
    (h : Q { scope := scope,locals := s.heap.objs.size,globals := env.globals,cells := cellsFrom (s.heap.objs.size + 1) scope.names cl,qual := env.qual,func := none,code := env.code,frame := env.frame,builtins := env.builtins }
      { s with heap := pushCells (s.heap.push { cls := .type "dict",data := .dict #[] }) scope.names }) :
    wpAny M A (newFunctionEnv scope env.globals cl [] env.qual none .none (some env)) Q E s := by
  have top : ({ s with heap := s.heap.push { cls := .type "dict",data := .dict #[] } } : Shared).heap.objs.size = s.heap.objs.size + 1 := Heap.size_push ..
  rw [<- top] at h
  unfold newFunctionEnv
  simp only [Option.isSome_some,if_true]
  exact wpAny_bind (wpAny_alloc (wpAny_bind (wpAny_layCells _ (fun n k cs => by by_cases c : (k == NameKind.cell) = true <;> simp [c]) _ _ _ _ (wpAny_bind (wpAny_pure (wpAny_pure h))))))
structure AJ (sc : Scope) (N : List Str) (scope : Scope) (N' : List Str) (cap : List (Option Nat)) : Prop where
 kind : scope.kind = .function
 free : ∀ y ∈ scope.names,y.2 = .free -> sc.names.lookup y.1 = some .cell \/ sc.names.lookup y.1 = some .free
 len : cap.length = N'.length
 capt : ∀ (i j : Nat),cap[i]? = some (some j) -> ∃ x : Str,N'[i]? = some x /\ N[j]? = some x /\ (x,NameKind.free) ∈ scope.names /\ (x,NameKind.cell) ∉ scope.names
 names : ∀ y ∈ scope.names,y.2 = .local -> scope.names.lookup y.1 = some .local
 own : ∀ y ∈ scope.names,scope.names.lookup y.1 = some y.2
def Jm (sc : Scope) (N : List Str) (scope : Scope) (N' : List Str) (cap : List (Option Nat)) : Bool :=
  scope.kind == .function && (scope.names.all fun y => y.2 != .free || sc.names.lookup y.1 == some .cell || sc.names.lookup y.1 == some .free) && cap.length == N'.length &&
    ((List.range cap.length).all fun i => match cap[i]? with
      | some (some j) => (match N'[i]?, N[j]? with
        | some x,some y => x == y && scope.names.any (fun z => z.1 == x && z.2 == .free) && scope.names.all (fun z => !(z.1 == x && z.2 == .cell))
        | _,_ => false)
      | _ => true) && scope.names.all fun y => scope.names.lookup y.1 == some y.2
theorem AJ.of {sc : Scope} {N : List Str} {scope : Scope} {N' : List Str} {cap : List (Option Nat)} (h : Jm sc N scope N' cap = true) : AJ sc N scope N' cap := by
 unfold Jm at h
 simp only [Bool.and_eq_true] at h
 obtain ⟨⟨⟨⟨h1,h2⟩,h3⟩,h4⟩,h5⟩ := h
 have own : ∀ y ∈ scope.names,scope.names.lookup y.1 = some y.2 := fun y hy => by
  have := List.all_eq_true.mp h5 y hy
  simpa using this
 refine ⟨by simpa using h1,fun y hy hf => ?_,by simpa using h3,fun i j e => ?_,fun y hy hl => by rw [own y hy,hl],own⟩
 ·have := List.all_eq_true.mp h2 y hy
  rw [hf] at this
  simpa using this
 ·have hi : i < cap.length := (List.getElem?_eq_some_iff.mp e).1
  have := List.all_eq_true.mp h4 i (List.mem_range.mpr hi)
  rw [e] at this
  dsimp only at this
  cases hx : N'[i]? with
  | none => rw [hx] at this; simp at this
  | some x =>
   cases hy : N[j]? with
   | none => rw [hx,hy] at this; simp at this
   | some y =>
    rw [hx,hy] at this
    simp only [Bool.and_eq_true] at this
    obtain ⟨⟨t1,t2⟩,t3⟩ := this
    have e1 : x = y := by simpa using t1
    subst e1
    obtain ⟨z,hz,t⟩ := List.any_eq_true.mp t2
    simp only [Bool.and_eq_true] at t
    have z1 : z.1 = x := by simpa using t.1
    have z2 : z.2 = .free := by simpa using t.2
    have ez : z = (x,NameKind.free) := by rw [<- z1,<- z2]
    refine ⟨x,rfl,rfl,ez ▸ hz,fun hm => ?_⟩
    have := List.all_eq_true.mp t3 _ hm
    simp at this
def AM (cap : List (Option Nat)) (σ : St) : St := cap.map fun o => match o with | some j => (match σ[j]? with | some v => v | none => none) | none => none
def Bz (X : Cx) (cs : List Expr) (t : TT) : Prop :=
 ∀ (pins : List (Addr × Obj)) (s : Shared) (σ : St) (H : Hp) (Q : Bool -> Hp -> Prop),Ae X pins σ H s -> t σ H Q ->
  wpAny (model X.prog X.w) X.A (forIn cs true fun c r => if r = true then do let ok <- isTrue c X.env (eval c X.env); pure (ForInStep.yield ok) else pure (ForInStep.yield r)) (TP X pins σ Q) X.xe s
def MT : TT := fun _ H Q => Q true H
theorem AX {X : Cx} : Bz X [] MT := fun _ _ σ H Q I h => wpAny_tests_nil ⟨H,I,h⟩
theorem D3 {X : Cx} {c : Expr} {t : TT} (h : PT X c t) : Bz X [c] t := fun pins s σ H Q I q => wpAny_tests_one (h pins s σ H Q I q)
def AI (X : Cx) (N' : List Str) (scope : Scope) (s : Shared) (H : Hp) (ex : List Addr) (C : Addr) : Cx :=
  { X with N := N',s₀ := s,H₀ := H,env := Hr scope X.env C,outer := X.stack,ex := ex,fn := fun x => scope.names.any fun z => z.1 == x && z.2 == .cell,pn := [],xe := fun _ _ => False }
theorem Fv {env : Env} {x : Str} : ∀ (names : List (Str × NameKind)),(names.map fun (n,k) => if (k == NameKind.free && env.scope.kind == .function && env.kindOf n == some .cell) then (n,NameKind.cell) else (n,k)).lookup x =
    (names.lookup x).map fun k => if (k == NameKind.free && env.scope.kind == .function && env.kindOf x == some .cell) then NameKind.cell else k
  | [] => rfl
  | (n, k) :: r => by
    have ih := Fv (env := env) (x := x) r
    show List.lookup x ((if (k == NameKind.free && env.scope.kind == .function && env.kindOf n == some .cell) = true then (n,NameKind.cell) else (n,k)) :: _) = _
    cases hx : x == n with
    | true =>
      have e : x = n := beq_iff_eq.mp hx
      subst e
      split <;> simp_all [List.lookup_cons]
    | false =>
      have e : (List.lookup x ((n,k) :: r)) = r.lookup x := by rw [List.lookup_cons,hx]
      rw [e,<- ih]
      split <;> simp [List.lookup_cons,hx]
section
variable {X : Cx} {pins : List (Addr × Obj)} {σ : St} {H : Hp} {s : Shared} {scope : Scope} {N' : List Str} {cap : List (Option Nat)} {fp : List Addr}
theorem MU (I : Ae X pins σ H s) (B : AJ X.env.scope X.N scope N' cap) (hf : ∀ b ∈ fp,Bp X pins H b) (hlt : ∀ b ∈ fp,b < s.heap.objs.size) {C : Addr} (hC : s.heap.objs.size <= C) :
  (AI X N' scope s H fp C).Ok := by
 have clt : ∀ x c,X.env.cells.lookup x = some c -> c < s.heap.objs.size := fun x c e => let ⟨_,q⟩ := I.cell x c e; q.lt
 have acc : ∀ x c,(Bj X.env.cells scope.names []).lookup x = some c -> X.env.cells.lookup x = some c := fun x c e => (DD _ _ e).elim id fun z => nomatch z
 refine ⟨I.ok.mod,B.kind,I.ok.glob,I.ok.blt,hC,fun x y c h1 h2 => ?_,fun x hx => ?_,fun x c hx h => ?_,I.ok.hd,I.ok.frames,.inl rfl,fun b hb => ⟨?_,fun x c h e => ?_⟩,I.bs,Nat.le_trans I.ok.bsz I.sz,fun b o e hb => ?_,fun b hb z => ?_,I.stack,I.stkFree⟩
 ·exact Ho scope.names (C + 1) _ (fun x c e => Nat.lt_succ_of_lt (Nat.lt_of_lt_of_le (clt x c (acc x c e)) hC)) (fun x y c e e' => I.ok.inj x y c (acc x c e) (acc y c e')) x y c h1 h2
 ·have hx' : (relabel scope X.env).names.lookup x = some .cell \/ (relabel scope X.env).names.lookup x = some .free := hx
  have hl : (scope.names.lookup x).isSome = true := by
   unfold relabel at hx'
   rw [Fv] at hx'
   cases q : scope.names.lookup x with
   | none => rw [q] at hx'; rcases hx' with z | z <;> cases z
   | some k => rfl
  obtain ⟨k,hk⟩ := Option.isSome_iff_exists.mp hl
  have hm := PySem.mem_of_lookup hk
  refine Hn scope.names (C + 1) _ ?_
  cases k with
  | cell => exact .inl hm
  | free =>
   refine .inr ?_
   obtain ⟨c,hc⟩ := I.ok.has x (B.free _ hm rfl)
   exact ⟨c,EE hc _ _ hm⟩
  | _ =>
   unfold relabel at hx'
   rw [Fv,hk] at hx'
   rcases hx' with z | z <;> simp at z
 ·have hx' : (scope.names.any fun z => z.1 == x && z.2 == .cell) = true := hx
  obtain ⟨z,hz,t⟩ := List.any_eq_true.mp hx'
  simp only [Bool.and_eq_true] at t
  have z1 : z.1 = x := by simpa using t.1
  have z2 : z.2 = .cell := by simpa using t.2
  have ez : z = (x,NameKind.cell) := by rw [<- z1,<- z2]
  have := Hl (lo := C + 1) scope.names (C + 1) _ (Nat.le_refl _) (.inl (ez ▸ hz)) h
  exact Nat.le_trans hC (Nat.le_of_succ_le this)
 ·exact Nat.ne_of_lt (Nat.lt_of_lt_of_le (hlt b hb) hC)
 ·rcases D0 scope.names (C + 1) _ h with q | q
  ·have := hlt b hb
   rw [<- e] at this
   exact absurd (Nat.lt_of_lt_of_le this (Nat.le_trans hC (Nat.le_of_succ_le q))) (Nat.lt_irrefl _)
  ·exact (hf b hb).2.2.2.2.1 x c (acc x c q) e
 ·obtain ⟨_,_,_,f3,_⟩ := hf b hb
  rcases f3 with f3 | f3
  ·exact I.ok.noex b o e f3
  ·exact absurd (Nat.lt_of_lt_of_le (Heap.lt_size e) (Nat.le_trans I.ok.bsz f3)) (Nat.lt_irrefl _)
 ·obtain ⟨_,f1,f2,_⟩ := hf b hb
  rcases List.mem_cons.mp (I.stkSub b z) with q | q
  ·exact f1 q
  ·exact f2 q
theorem Jn (I : Ae X pins σ H s) (B : AJ X.env.scope X.N scope N' cap) (hf : ∀ b ∈ fp,Bp X pins H b) (hlt : ∀ b ∈ fp,b < s.heap.objs.size) {h3 : Heap} (hk : ∀ b o,s.heap.get? b = some o -> h3.get? b = some o) (hsz : s.heap.objs.size <= h3.objs.size) :
  Ae (AI X N' scope s H fp h3.objs.size) [] (AM cap σ) H { s with heap := pushCells (h3.push { cls := .type "dict",data := .dict #[] }) scope.names } := by
 have acc : ∀ x c,(Bj X.env.cells scope.names []).lookup x = some c -> X.env.cells.lookup x = some c := fun x c e => (DD _ _ e).elim id fun z => nomatch z
 have hk3 : ∀ b o,h3.get? b = some o -> (pushCells (h3.push { cls := .type "dict",data := .dict #[] }) scope.names).get? b = some o := fun b o e => pushCells_keeps _ _ b o (Heap.get?_push_of_some _ e)
 have hk4 : ∀ b o,s.heap.get? b = some o -> (pushCells (h3.push { cls := .type "dict",data := .dict #[] }) scope.names).get? b = some o := fun b o e => hk3 b o (hk b o e)
 refine ⟨MU I B hf hlt hsz,rfl,I.bare,Un.kept hk4,⟨fun _ => none,(Heap.Ns.new h3 (.type "dict")).keeps (pushCells_keeps _ _),fun i x v h1 h2 h4 => ?_⟩,fun x c h => ?_,?_,fun x c h => ?_,fun p hp => absurd (show p ∈ ([] : List (Addr × Obj)) from hp) (by simp),I.hok.kept hk4,?_⟩
 ·have h2' : (AM cap σ)[i]? = some (some v) := h2
  unfold AM at h2'
  rw [List.getElem?_map] at h2'
  cases q : cap[i]? with
  | none => rw [q] at h2'; cases h2'
  | some o =>
   rw [q] at h2'
   cases o with
   | none => exact nomatch Option.some.inj h2'
   | some j =>
    have h2'' : (match σ[j]? with | some v => v | none => none) = some v := Option.some.inj h2'
    cases qs : σ[j]? with
    | none => rw [qs] at h2''; cases h2''
    | some v' =>
     rw [qs] at h2''
     have hs : σ[j]? = some (some v) := by rw [qs]; exact congrArg some h2''
     obtain ⟨x',e1,e2,e3,e4⟩ := B.capt i j q
     have h1' : N'[i]? = some x := h1
     rw [h1'] at e1; cases e1
     have hcf := B.free _ e3 rfl
     obtain ⟨m,hn,hl⟩ := I.loc
     obtain ⟨u,ru,lk⟩ := hl j x v e2 hs (hcf.elim (fun z => .inr (.inl z)) fun z => .inr (.inr z))
     refine ⟨u,ru,?_⟩
     rcases lk with ⟨lk,_⟩ | ⟨_,c,hc,ic⟩
     ·have lk' : X.env.scope.names.lookup x = some .local := lk
      have hcf' : X.env.scope.names.lookup x = some .cell \/ X.env.scope.names.lookup x = some .free := hcf
      rw [lk'] at hcf'; rcases hcf' with z | z <;> cases z
     ·refine .inr ⟨?_,c,Hm _ _ _ e4 (EE hc _ _ e3),ic.keeps hk4⟩
      have : (relabel scope X.env).names.lookup x = some .cell \/ (relabel scope X.env).names.lookup x = some .free := by
       unfold relabel
       rw [Fv,B.own _ e3]
       dsimp only [Option.map]
       split
       ·exact .inl rfl
       ·exact .inr rfl
      exact this
 ·have h' : (cellsFrom (h3.objs.size + 1) scope.names (Bj X.env.cells scope.names [])).lookup x = some c := h
  have e : (h3.push { cls := .type "dict",data := .dict #[] }).objs.size = h3.objs.size + 1 := Heap.size_push ..
  rw [<- e] at h'
  rcases Hq _ _ _ h' with q | q
  ·exact ⟨_,q⟩
  ·obtain ⟨v,z⟩ := I.cell x c (acc x c q)
   exact ⟨v,z.keeps hk4⟩
 ·exact I.hok.fresh hsz
 ·rcases D0 scope.names (h3.objs.size + 1) _ h with q | q
  ·exact I.hok.fresh (Nat.le_trans hsz (Nat.le_of_succ_le q))
  ·exact I.freeC x c (acc x c q)
 ·show (AM cap σ).length = N'.length
  unfold AM
  rw [List.length_map]
  exact B.len
end
end L2
end
section
namespace L2
open PySem PySem.Spec PyProof.Rows
variable {E iter : Expr} {Y X : Cx} {PB : List (Addr × Obj)} {σ : St} {zs xs : List V} {H : Hp} {its : List Value} {k : Nat} {te : TE} {wi : TI} {g : TG} {tt : TT} {scope : Scope} {cap : List (Option Nat)} {Q : List V -> Hp -> Prop}
def Keep : St -> St -> Prop
 | [],[] => True
 | none :: r,_ :: r' => Keep r r'
 | some v :: r,o :: r' => o = some v /\ Keep r r'
 | _,_ => False
theorem Keep.len : ∀ {a b : St},Keep a b -> a.length = b.length
 | [],[],_ => rfl
 | none :: r,_ :: r',h => by have h' : Keep r r' := h; simp [Keep.len h']
 | some v :: r,o :: r',h => by have h' : o = some v /\ Keep r r' := h; simp [Keep.len h'.2]
theorem Keep.get : ∀ {a b : St} {i : Nat} {v : V},Keep a b -> a[i]? = some (some v) -> b[i]? = some (some v)
 | [],[],_,_,_,e => by simp at e
 | none :: r,_ :: r',0,v,h,e => by simp at e
 | none :: r,_ :: r',i + 1,v,h,e => by
  have h' : Keep r r' := h
  simpa using Keep.get (i := i) h' (by simpa using e)
 | some v :: r,o :: r',0,w,h,e => by
  have h' : o = some v /\ Keep r r' := h
  simp at e
  simp [h'.1,e]
 | some v :: r,o :: r',i + 1,w,h,e => by
  have h' : o = some v /\ Keep r r' := h
  simpa using Keep.get (i := i) h'.2 (by simpa using e)
def br (c : Bool) (A B : Prop) : Prop := (c = true -> A) /\ (c = false -> B)
def Hs (wi : TI) (cap : List (Option Nat)) (g : TG) (tt : TT) (te : TE) : St -> Hp -> (List V -> Hp -> Prop) -> Prop := fun σ H Q => wi σ H fun J H1 =>
 ∃ W : Nat -> Nat -> List V -> Hp -> Prop,(∃ m,W 0 m [] H1) /\ ∀ i m ys H,W i m ys H ->
  (J.stop i H /\ Q ys H) \/
  (J.go i H /\ ys.length < sizeLine /\ ∃ N : List V -> Hp -> Prop, (∀ ys' H', N ys' H' -> ∃ m', m' < m /\ W (i + 1) m' ys' H') /\ ∀ x H', J.yld i H x H' -> g x (AM cap σ) H' fun σ2 H2 => Keep (AM cap σ) σ2 /\ tt σ2 H2 fun b H3 =>
   br b (te σ2 H3 fun y H4 => N (ys ++ [y]) H4) (N ys H3))
structure Fw (X : Cx) (pins : List (Addr × Obj)) (C : Addr) (H : Hp) (s : Shared) : Prop where
 ns : ∃ m,s.heap.Ns C m
 free : H C = none
 loc : C ≠ X.env.locals
 sz : X.s₀.heap.objs.size <= C
 cell : ∀ x c,X.env.cells.lookup x = some c -> c ≠ C
 pin : ∀ p ∈ X.pn ++ pins,p.1 ≠ C
abbrev TB := St -> List V -> Hp -> (List V -> Hp -> Prop) -> Prop
def EF (E : Expr) (d : Nat) (tg it : Expr) (ifs : List Expr) (body : Sem PySem.Fin) (itv acc : Value) (env : Env) : Sem PySem.Fin := do
  standAt it.pos
  let r <- pyNext itv
  match r with
   | none => pure (Fin.done Flow.next)
   | some v => do
    letOwnedTupleGo tg itv v
    assign tg env v
    let ok <- forIn ifs true fun c r => if r = true then do let ok <- PySem.isTrue c env (eval c env); pure (ForInStep.yield ok) else pure (ForInStep.yield r)
    if ok = true then body else again (Code.compLoop E d itv acc env)
def Fx (E : Expr) (d : Nat) (elt : Expr) (itv acc : Value) (env : Env) : Sem PySem.Fin := do
  let _ <- (do
   let x <- eval elt env
   let _ <- call (Value.builtin "list.append") [acc,x]
   pure ())
  again (Code.compLoop E d itv acc env)
def Ht (E : Expr) (d : Nat) (it2 : Expr) (itv acc : Value) (env : Env) : Sem PySem.Fin := do
  let x <- eval it2 env
  standAt it2.pos
  let x <- foldedSetIterable it2 env x
  let j <- holding [x] (pyIter x)
  let _ <- runOwn (Code.compStart E (d + 1) j acc env) env
  again (Code.compLoop E d itv acc env)
abbrev Fy (M : Model) (A : Around) (E : Expr) (d : Nat) (itv acc : Value) (env : Env) (body : Sem PySem.Fin) (P : Shared -> Prop) (s : Shared) : Prop := wpAny M A body (fun fin s' => fin = .again (.compLoop E d itv acc env) /\ P s') (fun _ _ => False) s
section
variable {prog : Program} {w : World} {A : Around} {R : Result -> Shared -> Prop} {s : Shared} {e0 tg it elt it2 : Expr} {gs : List Comprehension} {ifs : List Expr} {sc : Scope} {ps : Pos} {itv acc : Value} {env : Env} {d : Nat} {body : Sem PySem.Fin} {P : Shared -> Prop}
theorem MV (h : wpAny (model prog w) A (eval elt env) (fun x s₄ => wpAny (model prog w) A (call (.builtin "list.append") [acc,x]) (fun _ s₅ => P s₅) (fun _ _ => False) s₄) (fun _ _ => False) s) : Fy (model prog w) A E d itv acc env (Fx E d elt itv acc env) P s :=
 wpAny_bind (wpAny_bind (wpAny_mono h (fun x s₄ h₄ => wpAny_bind (wpAny_mono h₄ (fun _ s₅ h₅ => wpAny_pure (wpAny_pure ⟨rfl,h₅⟩)) fun _ _ h' => h'.elim)) fun _ _ h' => h'.elim))
theorem MW (hs : ∀ x,foldedSetIterable it2 env x = pure x) (h : wpAny (model prog w) A (eval it2 env) (fun x s₄ => wpAny (model prog w) A (pyIter x) (fun j s₅ => codeAny (model prog w) (A.mark none) (.compStart E (d + 1) j acc env) (fun r s₆ => r = .ok .next /\ P s₆) s₅) (fun _ _ => False) s₄) (fun _ _ => False) s) : Fy (model prog w) A E d itv acc env (Ht E d it2 itv acc env) P s := by
 refine wpAny_bind (wpAny_mono h (fun x s₄ h₄ => wpAny_bind (wpAny_standAt ?_)) fun _ _ h' => h'.elim)
 rw [hs]
 refine wpAny_bind (wpAny_pure (wpAny_bind (wpAny_holding (wpAny_mono h₄ (fun j s₅ h₅ => ?_) fun _ _ h' => h'.elim))))
 refine wpAny_bind (wpAny_runOwn (codeAny_mono h₅ fun r s₆ h₆ => ?_))
 obtain ⟨rfl,h₆⟩ := h₆
 exact wpAny_pure ⟨rfl,h₆⟩
theorem MX (ht : compTurn (.ListComp e0 gs sc ps) d itv acc env = EF (.ListComp e0 gs sc ps) d tg it ifs body itv acc env) (I : Nat -> Shared -> Prop)
  (turn : ∀ n s, I n s -> wpAny (model prog w) A (pyNext itv) (fun r s₁ => match r with
   | none => R (.ok .next) s₁
   | some v => wpAny (model prog w) A (letOwnedTupleGo tg itv v) (fun _ s₁' => wpAny (model prog w) A (assign tg env v) (fun _ s₂ =>
     wpAny (model prog w) A (forIn ifs true fun c r => if r = true then do let ok <- isTrue c env (eval c env); pure (ForInStep.yield ok) else pure (ForInStep.yield r)) (fun ok s₃ =>
      if ok = true then Fy (model prog w) A (.ListComp e0 gs sc ps) d itv acc env body (fun s₅ => ∃ m,m < n /\ I m s₅) s₃
      else ∃ m,m < n /\ I m s₃) (fun _ _ => False) s₂) (fun _ _ => False) s₁') (fun _ _ => False) s₁) (fun _ _ => False) s)
  (n : Nat) (h : I n s) : codeAny (model prog w) A (.compLoop (.ListComp e0 gs sc ps) d itv acc env) R s := by
 refine codeAny_loop rfl I (fun n s hI => ?_) n h
 show wpAny _ A ((compTurn (.ListComp e0 gs sc ps) d itv acc env).onRaise (fun x => do noteFrame x env; theTreesLotGoes x)) _ _ s
 refine wpAny_noted ?_
 rw [ht]
 unfold EF
 refine wpAny_bind (wpAny_standAt (wpAny_bind (wpAny_mono (turn n s hI) (fun r s₁ h₁ => ?_) fun _ _ h' => h'.elim)))
 cases r with
 | none => exact wpAny_pure h₁
 | some v =>
  refine wpAny_bind (wpAny_mono h₁ (fun _ s₁' h₁' => ?_) fun _ _ h' => h'.elim)
  refine wpAny_bind (wpAny_mono h₁' (fun _ s₂ h₂ => wpAny_bind (wpAny_mono h₂ (fun ok s₃ h₃ => ?_) fun _ _ h' => h'.elim)) fun _ _ h' => h'.elim)
  cases ok with
  | false => exact wpAny_pure ⟨rfl,h₃⟩
  | true => exact wpAny_mono h₃ (fun fin s₅ ⟨e,q⟩ => by subst e; exact ⟨rfl,q⟩) fun _ _ h' => h'.elim
end
structure CW (Y : Cx) (a : Addr) : Prop where
 loc : a ≠ Y.env.locals
 fs : a ∉ Y.fs
 sz : a ∈ Y.ex \/ Y.s₀.heap.objs.size <= a
 cell : ∀ x c,Y.env.cells.lookup x = some c -> c ≠ a
 pn : Y.pn = []
 calm : Y.calm = true
abbrev DE (its : List Value) (k : Nat) : Obj := { cls := .type "list",data := .seq its.toArray k }
structure Grown (Y : Cx) (a : Addr) (PB : List (Addr × Obj)) (σ : St) (zs : List V) (H : Hp) (s : Shared) : Prop where
 inv : Ae Y PB σ H s
 no : H a = none
 len : zs.length <= sizeLine
 at' : ∃ its k,s.heap.get? a = some (DE its k) /\ At zs its
theorem Grown.pin {a : Addr} {s : Shared} (A : CW Y a) (g : Grown Y a PB σ zs H s) (e : s.heap.get? a = some (DE its k)) : Ae Y ((a,DE its k) :: PB) σ H s :=
 g.inv.pins_of fun p hp => by
  rcases List.mem_cons.mp hp with rfl | hp
  ·exact ⟨e,g.no,A.loc,A.fs,fun v z => by
    have z' : Data.seq its.toArray k = Data.cell v := z
    cases z'⟩
  ·exact g.inv.pin p (List.mem_append_right _ hp)
theorem Ae.grown {a : Addr} {s : Shared} (I : Ae Y ((a,DE its k) :: PB) σ H s) (hz : zs.length <= sizeLine) (v : At zs its) : Grown Y a PB σ zs H s := by
 have q := I.pin (a,DE its k) (List.mem_append_right _ List.mem_cons_self)
 exact ⟨I.pins_of fun p hp => I.pin p (List.mem_append_right _ (List.mem_cons_of_mem _ hp)),q.2.1,hz,its,k,q.1,v⟩
def Jo : List V -> Prop -> Prop := fun zs p => zs.length < sizeLine /\ p
def MY : List V -> Prop -> Prop := fun _ p => p
def EG (Y : Cx) (a : Addr) (E : Expr) (d : Nat) (body : Value -> Sem PySem.Fin) (C : List V -> Prop) (B : TB) : Prop :=
 ∀ (jt : Value) (PB : List (Addr × Obj)) (σ : St) (zs : List V) (H : Hp) (s : Shared) (N : List V -> Hp -> Prop) (P : Shared -> Prop),(∀ p ∈ PB,p.1 ≠ a) -> Grown Y a PB σ zs H s -> C zs -> B σ zs H N -> (∀ zs' H' s',Grown Y a PB σ zs' H' s' -> N zs' H' -> P s') -> Fy (model Y.prog Y.w) Y.A E d jt (.ref a) Y.env (body jt) P s
theorem Jp {e0 tg it : Expr} {gs : List Comprehension} {ifs : List Expr} {sc : Scope} {ps : Pos} {d m0 : Nat} {Y : Cx} {a jt : Addr} {PB : List (Addr × Obj)} {g : TG} {tt : TT} {B : TB} {C : List V -> Prop} {Z : List V -> Prop -> Prop} {body : Value -> Sem PySem.Fin} {fp : List Addr} {tn : Nat -> Heap -> Prop} {J : It} {W : Nat -> Nat -> List V -> Hp -> Prop} {σ : St} {ys : List V} {H : Hp} {s : Shared} {N : List V -> Hp -> Prop} {R : Result -> Shared -> Prop}
  (A : CW Y a) (hPB : ∀ p ∈ PB,p.1 ≠ a) (ht : ∀ itv,compTurn (.ListComp e0 gs sc ps) d itv (.ref a) Y.env = EF (.ListComp e0 gs sc ps) d tg it ifs (body itv) itv (.ref a) Y.env) (hx : Y.xe = fun _ _ => False) (hg : PG Y tg g) (htt : Bz Y ifs tt) (hb : EG Y a (.ListComp e0 gs sc ps) d body C B) (hZ : ∀ zs p,Z zs p -> C zs /\ p)
  (T : CC Y.prog Y.w Y.K tg J fp jt tn) (na : ∀ b ∈ fp,b ≠ a) (fpY : ∀ {o : Obj} {H' : Hp},(∀ b ∈ fp,H' b = none) -> ∀ b ∈ fp,Bp Y ((a,o) :: PB) H' b) (st : tn 0 s.heap) (gr : Grown Y a PB σ ys H s) (hn : ∀ b ∈ fp,H b = none) (w0 : W 0 m0 ys H)
  (turn : ∀ j m zs H,W j m zs H -> (J.stop j H /\ N zs H) \/ (J.go j H /\ Z zs (∃ N2 : List V -> Hp -> Prop,(∀ zs' H',N2 zs' H' -> ∃ m',m' < m /\ W (j + 1) m' zs' H') /\ ∀ x H',J.yld j H x H' -> g x σ H' fun σ3 H2 => Keep σ σ3 /\ tt σ3 H2 fun b H3 => br b (B σ3 zs H3 N2) (N2 zs H3))))
  (back : ∀ zs H' s',Grown Y a PB σ zs H' s' -> N zs H' -> R (.ok .next) s') : codeAny (model Y.prog Y.w) Y.A (.compLoop (.ListComp e0 gs sc ps) d (.ref jt) (.ref a) Y.env) R s := by
 refine MX (ht _) (fun n' s' => ∃ (j : Nat) (zs : List V) (H' : Hp),Grown Y a PB σ zs H' s' /\ tn j s'.heap /\ (∀ b ∈ fp,H' b = none) /\ W j n' zs H') ?_ m0 ⟨0,ys,H,gr,st,hn,w0⟩
 rintro n' s12 ⟨j,zs,H12,g12,st12,fr12,w12⟩
 obtain ⟨its',k',e12,v12⟩ := g12.at'
 have I12 := g12.pin A e12
 rcases turn j n' zs H12 w12 with ⟨stop,q⟩ | ⟨go2,hz0⟩
 ·refine Ao (T.done Y rfl rfl rfl A.calm j _ s12 _ H12 _ I12 (fpY fr12) st12 stop) fun r s13 ⟨hr,I13⟩ => ?_
  subst hr
  exact back zs H12 s13 (Ae.grown I13 g12.len v12) q
 ·obtain ⟨hC,N2,hN2,step2⟩ := hZ _ _ hz0
  refine Ao (T.item Y rfl rfl rfl A.calm j _ s12 _ H12 _ I12 (fpY fr12) st12 go2) fun r s13 ⟨u2,hr,h13⟩ => ?_
  subst hr
  refine Ao h13 fun _ s14 ⟨x2,H14,I14,r14,y14,st14,fr14⟩ => ?_
  have I14' := I14.pinned (fpY fr14) (T.obj _ _ st14)
  have hgY := hg _ s14 _ H14 x2 u2 _ I14' r14 (step2 x2 H14 y14)
  rw [hx] at hgY
  refine Ao hgY fun _ s15 ⟨σ15,H15,I15,kp2,q15⟩ => ?_
  have htY := htt _ s15 σ15 H15 _ I15 q15
  rw [hx] at htY
  refine Ao htY fun b2 s16 ⟨H16,I16,q16⟩ => ?_
  have pn : ∀ p ∈ PB ++ Ct fp s14.heap,p.1 ≠ a := fun p hp => by
   rcases List.mem_append.mp hp with hp | hp
   ·exact hPB p hp
   ·exact na p.1 (G7 hp).1
  have back2 : ∀ {σ' : St} {zs' : List V} {H' : Hp} {s' : Shared},Keep σ σ' -> Grown Y a (PB ++ Ct fp s14.heap) σ' zs' H' s' -> N2 zs' H' -> ∃ m,m < n' /\ ∃ (j : Nat) (zs : List V) (H' : Hp),Grown Y a PB σ zs H' s' /\ tn j s'.heap /\ (∀ b ∈ fp,H' b = none) /\ W j m zs H' := fun {σ' zs' H' s'} kp G n2 => by
   obtain ⟨m',hm,w16⟩ := hN2 _ _ n2
   refine ⟨m',hm,j + 1,zs',H',⟨(G.inv.pins_of fun p hp => G.inv.pin p (List.mem_append_right _ (List.mem_append_left _ hp))).weak (by rw [kp.len]) fun i v e => kp.get e,G.no,G.len,G.at'⟩,T.keep _ _ _ st14 fun b hb o e => (G.inv.pin (b,o) (List.mem_append_right _ (List.mem_append_right _ (DY hb e)))).1,fun b hb => ?_,w16⟩
   obtain ⟨o,e,d⟩ := T.obj _ _ st14 b hb
   exact (G.inv.pin (b,o) (List.mem_append_right _ (List.mem_append_right _ (DY hb e)))).2.1
  have g16 : Grown Y a (PB ++ Ct fp s14.heap) σ15 zs H16 s16 := Ae.grown I16 g12.len v12
  cases b2 with
  | false =>
   rw [if_neg Bool.false_ne_true]
   exact back2 kp2 g16 (q16.2 rfl)
  | true =>
   rw [if_pos rfl]
   exact hb _ _ _ _ _ _ _ _ pn g16 hC (q16.1 rfl) fun zs' H' s' G n2 => back2 kp2 G n2
def Hu (te : TE) : TB := fun σ zs H N => te σ H fun y H4 => N (zs ++ [y]) H4
theorem Jq {a : Addr} {elt : Expr} {d : Nat} (A : CW Y a) (hx : Y.xe = fun _ _ => False) (he : PE Y elt te) : EG Y a E d (fun jt => Fx E d elt jt (.ref a) Y.env) (fun zs => zs.length < sizeLine) (Hu te) := by
 intro jt PB σ zs H s N P hPB gr zlt h back
 obtain ⟨its',k',e12,v12⟩ := gr.at'
 have I16 := gr.pin A e12
 have heY := he _ s σ H _ I16 h
 rw [hx] at heY
 refine MV (Ao heY fun yv s17 ⟨y,H17,I17,r17,n17⟩ => ?_)
 have gI := Ae.grown I17 gr.len v12
 have b4 := (I17.pin (a,DE its' k') (List.mem_append_right _ List.mem_cons_self)).1
 have hl := v12.length
 refine call_meets F.slot_list_append ⟨_,b4,rfl⟩ F.entry_list_append (F.args_list_append_2 _ _) (PySem.list_append a its'.toArray k' yv (by rw [List.size_toArray]; omega)) ⟨b4,?_⟩
 have q := PySem.IsL.update b4 (fun a => a.push yv)
 have eqp : its'.toArray.push yv = (its' ++ [yv]).toArray := by simp
 rw [eqp] at q
 have I18 : Ae Y PB σ H17 { s17 with heap := s17.heap.update a (Obj.mapSeq fun a => a.push yv),toks := s17.toks } :=
  gI.inv.turned (it := a) (fun b o hb e => (Heap.get?_update_other s17.heap _ (Ne.symm hb)).trans e) gI.no A.loc A.sz A.cell fun p hp z => by
   rw [A.pn,List.nil_append] at hp
   exact hPB p hp z
 exact back (zs ++ [y]) H17 _ ⟨I18,gI.no,by rw [List.length_append,List.length_singleton]; omega,its' ++ [yv],_,q,v12.append (.cons r17 .nil)⟩ n17
def Jr (Z : List V -> Prop -> Prop) (wi : TI) (g : TG) (tt : TT) (B : TB) : TB := fun σ ys H N => wi σ H fun J H1 => ∃ W : Nat -> Nat -> List V -> Hp -> Prop,(∃ m,W 0 m ys H1) /\ ∀ j m zs H,W j m zs H ->
  (J.stop j H /\ N zs H) \/ (J.go j H /\ Z zs (∃ N2 : List V -> Hp -> Prop,(∀ zs' H',N2 zs' H' -> ∃ m',m' < m /\ W (j + 1) m' zs' H') /\ ∀ x H',J.yld j H x H' -> g x σ H' fun σ3 H2 => Keep σ σ3 /\ tt σ3 H2 fun b H3 => br b (B σ3 zs H3 N2) (N2 zs H3)))
theorem MZ {e0 tg it : Expr} {gs : List Comprehension} {ifs : List Expr} {sc : Scope} {ps : Pos} {d : Nat} {a : Addr} {B : TB} {C : List V -> Prop} {Z : List V -> Prop -> Prop} {body : Value -> Sem PySem.Fin} (A : CW Y a) (hx : Y.xe = fun _ _ => False) (hs : ∀ x,foldedSetIterable it Y.env x = pure x)
  (ht : ∀ itv,compTurn (.ListComp e0 gs sc ps) (d + 1) itv (.ref a) Y.env = EF (.ListComp e0 gs sc ps) (d + 1) tg it ifs (body itv) itv (.ref a) Y.env)
  (hst : ∀ {R : Result -> Shared -> Prop} {s : Shared} {j : Value},codeAny (model Y.prog Y.w) Y.A (.compLoop (.ListComp e0 gs sc ps) (d + 1) j (.ref a) Y.env) R s -> wpAny (model Y.prog Y.w) Y.A (pyIter j) (fun j' s' => codeAny (model Y.prog Y.w) Y.A (.compLoop (.ListComp e0 gs sc ps) (d + 1) j' (.ref a) Y.env) R s') (notedBy (model Y.prog Y.w) Y.A Y.env fun x s' => R (.error x) s') s -> codeAny (model Y.prog Y.w) Y.A (.compStart (.ListComp e0 gs sc ps) (d + 1) j (.ref a) Y.env) R s)
  (hi : PI Y tg it wi) (hg : PG Y tg g) (htt : Bz Y ifs tt) (hb : EG Y a (.ListComp e0 gs sc ps) (d + 1) body C B) (hZ : ∀ zs p,Z zs p -> C zs /\ p) : EG Y a (.ListComp e0 gs sc ps) d (fun jt => Ht (.ListComp e0 gs sc ps) d it jt (.ref a) Y.env) (fun _ => True) (Jr Z wi g tt B) := by
 intro jt0 PB σ ys H s N P hPB gr _ h back
 obtain ⟨its,k,ee,v0⟩ := gr.at'
 have I0 := gr.pin A ee
 have base := hi _ s σ H _ I0 h
 rw [hx] at base
 refine MW hs (Ao base fun v9 s9 h9 => Ao h9 fun itv2 s10 h10 => ?_)
 obtain ⟨jt,fp,tn,J,H10,e10,I10,T,st10,f10,W,⟨m2,w2⟩,turn⟩ := h10
 subst e10
 have g10 := Ae.grown I10 gr.len v0
 have ne2 : ∀ b ∈ fp,b ≠ a /\ ∀ p ∈ PB,p.1 ≠ b := fun b hb => by
  obtain ⟨_,_,_,_,_,f5⟩ := f10 b hb
  exact ⟨fun z => f5 (a,DE its k) (List.mem_append_right _ List.mem_cons_self) z.symm,fun p hp => f5 p (List.mem_append_right _ (List.mem_cons_of_mem _ hp))⟩
 have fpY : ∀ {o : Obj} {H' : Hp},(∀ b ∈ fp,H' b = none) -> ∀ b ∈ fp,Bp Y ((a,o) :: PB) H' b := fun {o H'} hn b hb => by
  obtain ⟨_,f1,f2',f3,f4,_⟩ := f10 b hb
  refine ⟨hn b hb,f1,f2',f3,f4,fun p hp e => ?_⟩
  rw [A.pn,List.nil_append] at hp
  rcases List.mem_cons.mp hp with rfl | hp
  ·exact (ne2 b hb).1 e.symm
  ·exact (ne2 b hb).2 p hp e
 have loop : codeAny (model Y.prog Y.w) Y.A (.compLoop (.ListComp e0 gs sc ps) (d + 1) (.ref jt) (.ref a) Y.env) (fun r s₆ => r = .ok .next /\ P s₆) s10 :=
  Jp A hPB ht hx hg htt hb hZ T (fun b hb => (ne2 b hb).1) fpY st10 g10 (fun b hb => (f10 b hb).1) w2 turn fun zs H' s' G n => ⟨rfl,back zs H' s' G n⟩
 exact hst loop (T.self _ 0 _ _ _ st10 loop)
theorem Js {X : Cx} {tg iter e0 : Expr} {gs : List Comprehension} {ifs : List Expr} {scope : Scope} {pos pos' : Pos} {wi : TI} {g : TG} {tt : TT} {Bt : TB} {Cd : List V -> Prop} (Z : List V -> Prop -> Prop) {N' : List Str} {cap : List (Option Nat)} {use : Option (Value -> Sem Unit)} {Q' : Value -> Shared -> Prop} {body : Value -> Value -> Env -> Sem PySem.Fin}
  {pins : List (Addr × Obj)} {s : Shared} {σ : St} {H : Hp} {Q : List V -> Hp -> Prop}
  (hc : X.calm = true) (hi : PI X tg iter wi) (B : AJ X.env.scope X.N scope N' cap) (hg : ∀ s H ex C,PG (AI X N' scope s H ex C) tg g) (ht : ∀ s H ex C,Bz (AI X N' scope s H ex C) ifs tt)
  (htn : ∀ itv acc env,compTurn (.ListComp e0 (⟨tg,iter,ifs,0⟩ :: gs) scope pos) 0 itv acc env = EF (.ListComp e0 (⟨tg,iter,ifs,0⟩ :: gs) scope pos) 0 tg iter ifs (body itv acc env) itv acc env)
  (hbd : ∀ s H ex C a,CW (AI X N' scope s H ex C) a -> EG (AI X N' scope s H ex C) a (.ListComp e0 (⟨tg,iter,ifs,0⟩ :: gs) scope pos) 0 (fun itv => body itv (.ref a) (AI X N' scope s H ex C).env) Cd Bt) (hZ : ∀ zs p,Z zs p -> Cd zs /\ p)
  (hs : ∀ x,foldedSetIterable iter X.env x = pure x) (I : Ae X pins σ H s)
  (h : wi σ H fun J H1 => ∃ W : Nat -> Nat -> List V -> Hp -> Prop,(∃ m,W 0 m [] H1) /\ ∀ i m ys H,W i m ys H -> (J.stop i H /\ Q ys H) \/ (J.go i H /\ Z ys (∃ N : List V -> Hp -> Prop,(∀ ys' H',N ys' H' -> ∃ m',m' < m /\ W (i + 1) m' ys' H') /\ ∀ x H',J.yld i H x H' -> g x (AM cap σ) H' fun σ2 H2 => Keep (AM cap σ) σ2 /\ tt σ2 H2 fun b H3 => br b (Bt σ2 ys H3 N) (N ys H3))))
  (fin : ∀ (acc C : Addr) (H : Hp) (ys : List V) (s' : Shared),H acc = none -> Ae X pins σ (upd H acc (.lst ys)) s' -> Fw X pins C (upd H acc (.lst ys)) s' -> Q ys H -> compPost (model X.prog X.w) X.A X.xe use Q' (.ref acc) C (.ok .next) s') :
  wpAny (model X.prog X.w) X.A (comprehension (.ListComp e0 (⟨tg,iter,ifs,0⟩ :: gs) scope pos) scope X.env pos' (newList []) false (eval iter X.env) use) Q' X.xe s := by
 have hclos : closureFor scope X.env = pure (Bj X.env.cells scope.names []) := Jk fun y hy hf => I.ok.has y.1 (B.free y hy hf)
 refine wpAny_comprehension_free (cl := Bj X.env.cells scope.names []) rfl hs hclos B.kind B.names (Ao (hi pins s σ H _ I h) fun v s1 h1 => Ao h1 fun itv s2 h2 => ?_)
 obtain ⟨it,fp,tn,J,H2,e,I2,T,st2,f2,W,⟨m0,w0⟩,turn⟩ := h2
 subst e
 refine wpAny_newObj_type (Jl ?_)
 dsimp only
 generalize hH3 : s2.heap.push { cls := .type "list",dict := none,data := .seq ([] : List Value).toArray } = h3
 have hsz3 : h3.objs.size = s2.heap.objs.size + 1 := by rw [<- hH3]; exact Heap.size_push ..
 have hk3 : ∀ b o,s2.heap.get? b = some o -> h3.get? b = some o := fun b o e => by rw [<- hH3]; exact Heap.get?_push_of_some _ e
 have hacc3 : h3.get? s2.heap.objs.size = some { cls := .type "list",data := .seq ([] : List Value).toArray } := by rw [<- hH3]; exact Heap.get?_push_size _ rfl
 have hlt : ∀ b ∈ fp,b < s2.heap.objs.size := fun b hb => let ⟨o,e,_⟩ := T.obj _ _ st2 b hb; Heap.lt_size e
 have I4 := Jn I2 B f2 hlt hk3 (by rw [hsz3]; exact Nat.le_succ _)
 have acc4 : (pushCells (h3.push { cls := .type "dict",data := .dict #[] }) scope.names).get? s2.heap.objs.size = some { cls := .type "list",data := .seq ([] : List Value).toArray } := pushCells_keeps _ _ _ _ (Heap.get?_push_of_some _ hacc3)
 have st4 : tn 0 (pushCells (h3.push { cls := .type "dict",data := .dict #[] }) scope.names) := T.keep _ _ _ st2 fun b _ o e => pushCells_keeps _ _ _ _ (Heap.get?_push_of_some _ (hk3 b o e))
 have haC : s2.heap.objs.size ≠ h3.objs.size := by rw [hsz3]; exact Nat.ne_of_lt (Nat.lt_succ_self _)
 have haN : s2.heap.objs.size ∉ Bq X.stack := fun z => by
  rcases List.mem_cons.mp (I2.stkSub _ z) with q | q
  ·exact absurd I2.lt (by rw [<- q]; exact Nat.lt_irrefl _)
  ·exact I2.nofs (Nat.le_refl _) q
 have okY := I4.ok
 have fpY : ∀ {pins' : List (Addr × Obj)} {H' : Hp},(∀ b ∈ fp,H' b = none) -> (∀ p ∈ pins',p.1 = s2.heap.objs.size) -> ∀ b ∈ fp,Bp (AI X N' scope s2 H2 fp h3.objs.size) pins' H' b := fun {pins' H'} hn hp b hb =>
  ⟨hn b hb, (okY.exf b hb).1, okY.exfs b hb, .inl hb, (okY.exf b hb).2, fun p z e => by
   have z' : p ∈ pins' := z
   have := hlt b hb
   rw [<- e,hp p z'] at this
   exact Nat.lt_irrefl _ this⟩
 have cellNe : ∀ x c,(AI X N' scope s2 H2 fp h3.objs.size).env.cells.lookup x = some c -> c ≠ s2.heap.objs.size := fun x c ec z => by
  rcases D0 scope.names (h3.objs.size + 1) _ ec with q' | q'
  ·rw [z,hsz3] at q'
   exact absurd q' (by omega)
  ·have ec' : X.env.cells.lookup x = some c := (DD _ _ q').elim id fun z => nomatch z
   obtain ⟨_,q''⟩ := I2.cell x c ec'
   have := q''.lt
   rw [z] at this
   exact Nat.lt_irrefl _ this
 have loop : ∀ s4 : Shared,s4 = { s2 with heap := pushCells (h3.push { cls := .type "dict",data := .dict #[] }) scope.names } ->
   codeAny (model X.prog X.w) X.A (.compLoop (.ListComp e0 (⟨tg,iter,ifs,0⟩ :: gs) scope pos) 0 (.ref it) (.ref s2.heap.objs.size) (Hr scope X.env h3.objs.size)) (compPost (model X.prog X.w) X.A X.xe use Q' (.ref s2.heap.objs.size) h3.objs.size) s4 := by
  rintro s4 rfl
  have A0 : CW (AI X N' scope s2 H2 fp h3.objs.size) s2.heap.objs.size := ⟨haC,haN,.inr (Nat.le_refl _),cellNe,rfl,hc⟩
  refine Jp (Y := AI X N' scope s2 H2 fp h3.objs.size) (PB := []) (W := W) A0 (fun p hp => absurd hp (by simp)) (fun _ => htn _ _ _) rfl (hg _ _ _ _) (ht _ _ _ _) (hbd _ _ _ _ _ A0) hZ T (fun b hb z => absurd (hlt b hb) (by rw [z]; exact Nat.lt_irrefl _))
   (fun {o H'} hn b hb => fpY hn (fun p hp => by rw [List.mem_singleton.mp hp]) b hb) st4 ⟨I4,I2.hok.fresh (Nat.le_refl _),Nat.zero_le _,[],0,acc4,.nil⟩ (fun b hb => (f2 b hb).1) w0 turn fun ys H5 s6 G q => ?_
  obtain ⟨its,k,e6,v5⟩ := G.at'
  have fa5 := G.no
  have z5 := G.len
  have I6 := G.inv
  have nacc : ∀ b u,H5 b = some u -> b ≠ s2.heap.objs.size := fun b u q z => by rw [z,fa5] at q; cases q
  have un : Un (Bq X.stack) fp H2 (upd H5 s2.heap.objs.size (.lst ys)) s2.heap s6.heap := by
   have u := I6.base
   refine ⟨u.keep,u.slot,fun b o q n hx => ?_,u.there,fun b xs q => ?_,fun b o xs q => ?_,fun b ps q => ?_⟩
   ·rw [Au (Nat.ne_of_lt (Heap.lt_size q))]
    exact u.free b o q n hx
   ·have z := u.tups b xs q
    rw [Au (nacc b _ z)]; exact z
   ·have z := u.frzs b o xs q
    rw [Au (nacc b _ z)]; exact z
   ·obtain ⟨more,z⟩ := u.tbls b ps q
    exact ⟨more,by rw [Au (nacc b _ z)]; exact z⟩
  have hok : HOk X.prog X.w (upd H5 s2.heap.objs.size (.lst ys)) s6.heap := fun b u q => by
   by_cases hb : b = s2.heap.objs.size
   ·subst hb
    rw [Ak] at q; cases q
    exact ⟨z5,its,k,v5,e6⟩
   ·rw [Au hb] at q
    have o6 : ObjOk X.prog X.w H5 s6.heap b u := I6.hok b u q
    exact o6.stay (fun _ _ _ e => e) (fun c z => by rw [Au (nacc c _ z)]; exact z) fun c xs z => by rw [Au (nacc c _ z)]; exact z
  have IX : Ae X pins σ (upd H5 s2.heap.objs.size (.lst ys)) s6 := I2.call' (show s6.os = s2.os from I6.os) un hok I6.bare fun b hb => let f := f2 b hb; ⟨f.2.2.2.1,f.2.1,f.2.2.2.2.1,f.2.2.2.2.2⟩
  have hCs : s2.heap.objs.size <= h3.objs.size := by rw [hsz3]; exact Nat.le_succ _
  refine fin _ _ H5 ys s6 fa5 IX ⟨let ⟨m,hn,_⟩ := I6.loc; ⟨m,hn⟩,?_,?_,Nat.le_trans I2.sz hCs,fun x c ec z => ?_,fun p hp z => ?_⟩ q
  ·rw [Au (Ne.symm haC)]; exact I6.free
  ·exact Nat.ne_of_gt (Nat.lt_of_lt_of_le I2.lt hCs)
  ·obtain ⟨_,q⟩ := I2.cell x c ec
   have := q.lt
   rw [z] at this
   exact absurd (Nat.lt_of_lt_of_le this hCs) (Nat.lt_irrefl _)
  ·have := Heap.lt_size (I2.pin p hp).1
   rw [z] at this
   exact absurd (Nat.lt_of_lt_of_le this hCs) (Nat.lt_irrefl _)
 exact codeAny_compStart_list (loop _ rfl) (T.self _ 0 _ _ _ st4 (loop _ rfl))
theorem Jt {X : Cx} {tg iter elt : Expr} {ifs : List Expr} {scope : Scope} {pos pos' : Pos} {wi : TI} {g : TG} {tt : TT} {te : TE} {N' : List Str} {cap : List (Option Nat)} {use : Option (Value -> Sem Unit)} {Q' : Value -> Shared -> Prop}
  {pins : List (Addr × Obj)} {s : Shared} {σ : St} {H : Hp} {Q : List V -> Hp -> Prop}
  (hc : X.calm = true) (hi : PI X tg iter wi) (B : AJ X.env.scope X.N scope N' cap) (hg : ∀ s H ex C,PG (AI X N' scope s H ex C) tg g) (ht : ∀ s H ex C,Bz (AI X N' scope s H ex C) ifs tt) (he : ∀ s H ex C,PE (AI X N' scope s H ex C) elt te)
  (hs : ∀ x,foldedSetIterable iter X.env x = pure x) (I : Ae X pins σ H s) (h : Hs wi cap g tt te σ H Q)
  (fin : ∀ (acc C : Addr) (H : Hp) (ys : List V) (s' : Shared),H acc = none -> Ae X pins σ (upd H acc (.lst ys)) s' -> Fw X pins C (upd H acc (.lst ys)) s' -> Q ys H -> compPost (model X.prog X.w) X.A X.xe use Q' (.ref acc) C (.ok .next) s') :
  wpAny (model X.prog X.w) X.A (comprehension (.ListComp elt [⟨tg,iter,ifs,0⟩] scope pos) scope X.env pos' (newList []) false (eval iter X.env) use) Q' X.xe s :=
 Js Jo (body := fun itv acc env => Fx (.ListComp elt [⟨tg,iter,ifs,0⟩] scope pos) 0 elt itv acc env) (Bt := Hu te) hc hi B hg ht (fun _ _ _ => rfl) (fun s H ex C a A => Jq A rfl (he s H ex C)) (fun _ _ z => z) hs I h fin
def M0 (wi : TI) (cap : List (Option Nat)) (g : TG) (tt : TT) (te : TE) : TE := fun σ H Q => Hs wi cap g tt te σ H fun ys H' => ∀ p,H' p = none -> Q (.ref p) (upd H' p (.lst ys))
theorem A8 {tg elt : Expr} {ifs : List Expr} {pos : Pos} (N' : List Str) (cap : List (Option Nat))
  (hc : X.calm = true) (hi : PI X tg iter wi) (B : AJ X.env.scope X.N scope N' cap) (hg : ∀ s H ex C,PG (AI X N' scope s H ex C) tg g) (ht : ∀ s H ex C,Bz (AI X N' scope s H ex C) ifs tt) (he : ∀ s H ex C,PE (AI X N' scope s H ex C) elt te)
  (hs : ∀ x,foldedSetIterable iter X.env x = pure x := by intro _; rfl) : PE X (.ListComp elt [⟨tg,iter,ifs,0⟩] scope pos) (M0 wi cap g tt te) := by
 intro pins s σ H Q I h
 rw [eval_ListComp]
 refine Jt (use := none) hc hi B hg ht he hs I h fun acc C H ys s' hn I' L q => ?_
 obtain ⟨m,hm⟩ := L.ns
 refine ⟨m,hm,fun h' hsb => ⟨.ref acc,_,I'.turned (t' := s'.toks) (it := C) (fun b o hb e => hsb.extBut b o hb e) L.free L.loc (.inr L.sz) L.cell L.pin,rfl,q acc hn⟩⟩
def M1 (i : Nat) (wi : TI) (cap : List (Option Nat)) (g : TG) (tt : TT) (te : TE) : TS := fun D σ H => Hs wi cap g tt te σ H fun ys H' => ∀ p,H' p = none -> D.nx (σ.set i (some (.ref p))) (upd H' p (.lst ys))
theorem EH {i : Nat} {y : Str} {tg elt : Expr} {ifs : List Expr} {pos pos' pos'' : Pos} (N' : List Str) (cap : List (Option Nat)) (hN : X.N.Nodup) (hin : X.N[i]? = some y) (hy : De X.env.scope y)
  (hc : X.calm = true) (hi : PI X tg iter wi) (B : AJ X.env.scope X.N scope N' cap) (hg : ∀ s H ex C,PG (AI X N' scope s H ex C) tg g) (ht : ∀ s H ex C,Bz (AI X N' scope s H ex C) ifs tt) (he : ∀ s H ex C,PE (AI X N' scope s H ex C) elt te)
  (hsw : swapsWith (.ListComp elt [⟨tg,iter,ifs,0⟩] scope pos) (some (.Name y pos')) pos''.line X.env = pure true := by rfl)
  (hf : X.fn y = true \/ X.env.scope.names.lookup y = some .local := by first | exact .inl rfl | exact .inr rfl | assumption)
  (hs : ∀ x,foldedSetIterable iter X.env x = pure x := by intro _; rfl) : PS X (.Assign [.Name y pos'] (.ListComp elt [⟨tg,iter,ifs,0⟩] scope pos) pos'') (M1 i wi cap g tt te) := by
 intro pins s σ H D I h
 rw [exec_Assign_Name_used _ _ _ _ hsw]
 refine wpAny_bind (wpAny_standAt (wpAny_bind ?_))
 show wpAny _ X.A (do let _ <- comprehension (.ListComp elt [⟨tg,iter,ifs,0⟩] scope pos) scope X.env _ (newList []) false (eval iter X.env) (some (assign (.Name y pos') X.env))) _ _ s
 refine wpAny_bind (wpAny_mono (Jt (use := some (assign (.Name y pos') X.env)) (Q' := fun _ s' => SP X pins D .next s') hc hi B hg ht he hs I h fun acc C H ys s' hn I' L q => ?_) (fun _ s' hq => wpAny_pure (wpAny_pure hq)) fun _ _ e => e)
 obtain ⟨m,hm⟩ := L.ns
 refine wpAny_assign_Name (G3 I' hN hin hy (show AA (.ref acc) (.ref acc) from rfl) (fun s'' I'' ⟨a,sb,ha⟩ => ?_) hf)
 have hCa : C ≠ a := by
  rcases ha with e | e
  ·rw [e]; exact L.loc
  ·exact fun z => L.cell _ _ e z.symm
 refine ⟨m,hm.sameBut sb hCa,fun h' hsb => ?_⟩
 exact ⟨_,_,I''.turned (t' := s''.toks) (it := C) (fun b o hb e => hsb.extBut b o hb e) L.free L.loc (.inr L.sz) L.cell L.pin,q acc hn⟩
def DF (J : It) (cap : List (Option Nat)) (g : TG) (tt : TT) (te : TE) (σ : St) (Q : List V -> Hp -> Prop) (H1 : Hp) : Prop :=
 ∃ W : Nat -> Nat -> List V -> Hp -> Prop,(∃ m,W 0 m [] H1) /\ ∀ i m ys H,W i m ys H ->
  (J.stop i H /\ Q ys H) \/
  (J.go i H /\ ys.length < sizeLine /\ ∃ N : List V -> Hp -> Prop, (∀ ys' H', N ys' H' -> ∃ m', m' < m /\ W (i + 1) m' ys' H') /\ ∀ x H', J.yld i H x H' -> g x (AM cap σ) H' fun σ2 H2 => Keep (AM cap σ) σ2 /\ tt σ2 H2 fun b H3 =>
   br b (te σ2 H3 fun y H4 => N (ys ++ [y]) H4) (N ys H3))
theorem D5 {J : It} (n : Nat) (Pv : Nat -> List V -> Hp -> Prop) (hn : n <= 100000) (h0 : Pv 0 [] H) (hz : ∀ i ys H,Pv i ys H -> ys.length <= i)
  (hs : ∀ i ys H,i < n -> Pv i ys H -> J.go i H /\ ∀ x H',J.yld i H x H' -> g x (AM cap σ) H' fun σ2 H2 => Keep (AM cap σ) σ2 /\ tt σ2 H2 fun b H3 => br b (te σ2 H3 fun y H4 => Pv (i + 1) (ys ++ [y]) H4) (Pv (i + 1) ys H3))
  (hd : ∀ ys H,Pv n ys H -> J.stop n H /\ Q ys H) : DF J cap g tt te σ Q H := by
 refine ⟨fun i m ys H => m = n - i /\ i <= n /\ Pv i ys H,⟨n,by simp,Nat.zero_le _,h0⟩,?_⟩
 rintro i m ys H ⟨rfl,hi,p⟩
 by_cases hlt : i < n
 ·obtain ⟨a,b⟩ := hs i ys H hlt p
  refine .inr ⟨a,?_,Pv (i + 1),fun ys' H' p' => ⟨n - (i + 1),by omega,rfl,hlt,p'⟩,b⟩
  have := hz i ys H p
  have : (100000 : Nat) < sizeLine := by decide
  omega
 ·have e : i = n := by omega
  subst e
  exact .inl (hd ys H p)
theorem BO {K : PySem.W.Frag} {a : Addr} (Pv : Nat -> List V -> Hp -> Prop) (hn : xs.length <= 100000) (h0 : Pv 0 [] H) (hz : ∀ i ys H,Pv i ys H -> ys.length <= i)
  (hl : ∀ i ys H,i <= xs.length -> Pv i ys H -> Ac K H a xs)
  (hs : ∀ i x ys H,xs[i]? = some x -> Pv i ys H -> g x (AM cap σ) H fun σ2 H2 => Keep (AM cap σ) σ2 /\ tt σ2 H2 fun b H3 => br b (te σ2 H3 fun y H4 => Pv (i + 1) (ys ++ [y]) H4) (Pv (i + 1) ys H3))
  (hd : ∀ ys H,Pv xs.length ys H -> Q ys H) : DF (DA K a) cap g tt te σ Q H :=
 D5 xs.length Pv hn h0 hz (fun i ys H hi p => ⟨⟨xs,xs[i],hl i ys H (Nat.le_of_lt hi) p,by simp [hi]⟩,fun x H' ⟨e,y⟩ => by subst e; exact hs i x ys _ (y xs (hl i ys _ (Nat.le_of_lt hi) p)) p⟩)
  fun ys H p => ⟨⟨xs,hl _ ys H (Nat.le_refl _) p,Nat.le_refl _⟩,hd ys H p⟩
theorem Fz {K : PySem.W.Frag} {a : Addr} (Pv : Nat -> List V -> Hp -> Prop) (hn : xs.length <= 100000) (h0 : Pv 0 [] H) (hz : ∀ i ys H,Pv i ys H -> ys.length <= i)
  (hl : ∀ i ys H,i <= xs.length -> Pv i ys H -> An K H a xs)
  (hs : ∀ i x ys H,xs[i]? = some x -> Pv i ys H -> g x (AM cap σ) H fun σ2 H2 => Keep (AM cap σ) σ2 /\ tt σ2 H2 fun b H3 => br b (te σ2 H3 fun y H4 => Pv (i + 1) (ys ++ [y]) H4) (Pv (i + 1) ys H3))
  (hd : ∀ ys H,Pv xs.length ys H -> Q ys H) : DF (DX K a) cap g tt te σ Q H :=
 D5 xs.length Pv hn h0 hz (fun i ys H hi p => ⟨⟨xs,xs[i],hl i ys H (Nat.le_of_lt hi) p,by simp [hi]⟩,fun x H' ⟨e,y⟩ => by subst e; exact hs i x ys _ (y xs (hl i ys _ (Nat.le_of_lt hi) p)) p⟩)
  fun ys H p => ⟨⟨xs,hl _ ys H (Nat.le_refl _) p,Nat.le_refl _⟩,hd ys H p⟩
theorem EI {lo : Int} {n : Nat} (Pv : Nat -> List V -> Hp -> Prop) (hn : n <= 100000) (h0 : Pv 0 [] H) (hz : ∀ i ys H,Pv i ys H -> ys.length <= i)
  (hs : ∀ i ys H,i < n -> Pv i ys H -> g (.int (lo + i)) (AM cap σ) H fun σ2 H2 => Keep (AM cap σ) σ2 /\ tt σ2 H2 fun b H3 => br b (te σ2 H3 fun y H4 => Pv (i + 1) (ys ++ [y]) H4) (Pv (i + 1) ys H3))
  (hd : ∀ ys H,Pv n ys H -> Q ys H) : DF (CD lo n) cap g tt te σ Q H :=
 D5 n Pv hn h0 hz (fun i ys H hi p => ⟨hi,fun x H' ⟨e,y⟩ => by subst e y; exact hs i ys _ hi p⟩) fun ys H p => ⟨Nat.le_refl _,hd ys H p⟩
end L2
end
section
namespace L2
open PySem PySem.Spec PyProof.Rows
open AutoSeq1 (wpAny_loadPart')
section
variable {prog : Program} {w : World} {A : Around} {E : Value -> Shared -> Prop} {s : Shared}
theorem M2 {it t : Addr} {i : Nat} {items : Array Value} {x : Value} {Q : Value -> Shared -> Prop} (hit : s.heap.IsTupleIter it t i) (ht : s.heap.IsTuple t items) (hx : items[i]? = some x)
  (hQ : ∀ h',h'.IsTupleIter it t (i + 1) -> Heap.SameBut it s.heap h' -> Q x { s with heap := h' }) : wpAny (model prog w) A (Builtin.SmallTypes.nextOf (.ref it)) Q E s := by
 obtain ⟨o,ho,hc,hd⟩ := id hit; obtain ⟨ol,hol,_,nl,hdl⟩ := ht; unfold Builtin.SmallTypes.nextOf
 refine wpAny_bind (wpAny_callSpecial?_slot (name := Str.ofString "__next__") hit.typeIs F.slot_tuple_iterator_next (wpAny_call_entry F.slot_tuple_iterator_next hit.typeIs F.entry_tuple_iterator_next ?_ (F.args_tuple_iterator_next_1 _)))
 show wpAny _ _ (field (.ref it) 0 >>= _) _ _ s; refine wpAny_bind (wpAny_field ho hd (x := .ref t) rfl ?_)
 show wpAny _ _ (if (Value.ref t == Value.none) = true then _ else _) _ _ s; rw [if_neg (show ¬ ((Value.ref t == Value.none) = true) from Bool.false_ne_true)]
 show wpAny _ _ (field (.ref it) 1 >>= _) _ _ s; refine wpAny_bind (wpAny_field ho hd (x := .int i 0) rfl ?_)
 show wpAny _ _ (seqItems? (.ref t) >>= _) _ _ s; refine wpAny_bind (wpAny_seqItems hol hdl ?_); simp only [Int.toNat_natCast,hx]
 refine wpAny_bind (wpAny_setField ho hd (by simp) (wpAny_pure ⟨x,rfl,wpAny_pure (hQ _ ?_ (Heap.SameBut.update ..))⟩)); exact ⟨_,Heap.get?_update_self _ ho (Obj.isFreed_of_fields (Obj.data_mapFields hd _)),(Obj.cls_mapFields ..).trans hc,by rw [Obj.data_mapFields hd]; simp [rawInt]⟩
theorem M3 {it t : Addr} {i : Nat} {items : Array Value} {Q : Value -> Shared -> Prop} (hh : A.handled = none) (hit : s.heap.IsTupleIter it t i) (ht : s.heap.IsTuple t items) (hx : items[i]? = none)
  (hE : ∀ h' e,Heap.ExtBut it s.heap h' -> (∃ o,h'.get? e = some o /\ o.cls = .type "StopIteration") -> E (.ref e) { s with heap := h' }) : wpAny (model prog w) A (Builtin.SmallTypes.nextOf (.ref it)) Q E s := by
 obtain ⟨o,ho,hc,hd⟩ := id hit; obtain ⟨ol,hol,_,nl,hdl⟩ := ht; unfold Builtin.SmallTypes.nextOf
 refine wpAny_bind (wpAny_callSpecial?_slot (name := Str.ofString "__next__") hit.typeIs F.slot_tuple_iterator_next (wpAny_call_entry F.slot_tuple_iterator_next hit.typeIs F.entry_tuple_iterator_next ?_ (F.args_tuple_iterator_next_1 _)))
 show wpAny _ _ (field (.ref it) 0 >>= _) _ _ s; refine wpAny_bind (wpAny_field ho hd (x := .ref t) rfl ?_)
 show wpAny _ _ (if (Value.ref t == Value.none) = true then _ else _) _ _ s; rw [if_neg (show ¬ ((Value.ref t == Value.none) = true) from Bool.false_ne_true)]
 show wpAny _ _ (field (.ref it) 1 >>= _) _ _ s; refine wpAny_bind (wpAny_field ho hd (x := .int i 0) rfl ?_)
 show wpAny _ _ (seqItems? (.ref t) >>= _) _ _ s; refine wpAny_bind (wpAny_seqItems hol hdl ?_); simp only [Int.toNat_natCast,hx]
 refine wpAny_bind (wpAny_rule (wpAny_bind (wpAny_setField ho hd (by simp) ?_))); show wpAny _ _ (newExc (.type "StopIteration") [] >>= _) _ _ _
 refine wpAny_bind ?_; simp only [newExc,newTuple]; refine wpAny_bind (wpAny_newObj_type ?_ (by size_fits))
 refine wpAny_bind (m := firstArgMember _ _) (wpAny_of_eq (a := Value.none) (by first | rfl | (simp only [firstArgMember]; rfl)) ?_); refine wpAny_newObj_type ?_ (by size_fits); simp only [raiseNew]
 refine wpAny_bind (wpAny_handled ?_); first | rw [show A.in1.handled = none from hh] | rw [hh]
 refine wpAny_bind (wpAny_pure (wpAny_throw ?_)); exact hE _ _ (((Heap.SameBut.update ..).extBut.push _).push _) ⟨_,Heap.get?_push_size _ rfl,rfl⟩
end
structure Ba (P : Program) (w : World) (K : PySem.W.Frag) where
 Sq : Hp -> Addr -> List V -> Prop
 It : Heap -> Addr -> Addr -> Nat -> Prop
 Is : Heap -> Addr -> Array Value -> Prop
 obj : Addr -> Obj
 get : ∀ {X : Cx} {pins : List (Addr × Obj)} {σ : St} {H : Hp} {s : Shared} {a : Addr} {xs : List V},X.K = K -> Ae X pins σ H s -> Sq H a xs -> ∃ its : List Value,At xs its /\ Is s.heap a its.toArray /\ xs.length <= sizeLine
 inj : ∀ {X : Cx} {pins : List (Addr × Obj)} {σ : St} {H : Hp} {s : Shared} {a : Addr} {xs ys : List V},X.K = K -> Ae X pins σ H s -> Sq H a xs -> Sq H a ys -> xs = ys
 draws : ∀ (A : Around),A.handled = none -> ∀ (it l : Addr),l ≠ it -> ∀ items : Array Value,Draws P w A it [it,l] items.size (fun i v => items[i]? = some v) (fun i h => It h it l i /\ Is h l items)
 ito : ∀ {h : Heap} {it l : Addr} {i : Nat},It h it l i -> ∃ o,h.get? it = some o /\ ∀ v,o.data ≠ .cell v
 itk : ∀ {h h' : Heap} {it l : Addr} {i : Nat},It h it l i -> (∀ o,h.get? it = some o -> h'.get? it = some o) -> It h' it l i
 isk : ∀ {h h' : Heap} {l : Addr} {items : Array Value},Is h l items -> (∀ o,h.get? l = some o -> h'.get? l = some o) -> Is h' l items
 iso : ∀ {h : Heap} {l : Addr} {items : Array Value},Is h l items -> ∃ o,h.get? l = some o
 ok : Prop
 itn : ok -> ∀ (h : Heap) (l : Addr),It (h.push (obj l)) h.objs.size l 0
def Hv (P : Program) (w : World) (K : PySem.W.Frag) : Ba P w K where
 Sq := fun H a xs => An K H a xs
 It := fun h it l i => h.IsListIter it l i
 Is := fun h l items => h.IsList l items
 obj := fun l => { cls := .type "list_iterator",data := .fields #[.ref l,.int 0 0] }
 get := fun {X pins σ H s a xs} hK I q => by subst hK; obtain ⟨its,r,p,z⟩ := I.list q; exact ⟨its,r,p.isList,z⟩
 inj := fun {X pins σ H s a xs ys} hK I q q' => by subst hK; exact I.list_inj q q'
 draws := fun A hh it l hne items => Draws.list hh it l hne items
 ito := fun {h it l i} ⟨o,e,c,d⟩ => ⟨o,e,fun v z => by rw [d] at z; cases z⟩
 itk := fun {h h' it l i} x k => x.at k
 isk := fun {h h' l items} x k => x.at k
 iso := fun {h l items} ⟨o,e,_⟩ => ⟨o,e⟩
 ok := True
 itn := fun _ h l => ⟨_,Heap.get?_push_size _ rfl,rfl,rfl⟩
def Cj (P : Program) (w : World) (K : PySem.W.Frag) : Ba P w K where
  Sq := fun H a xs => Ac K H a xs
  It := fun h it l i => h.IsTupleIter it l i
  Is := fun h l items => h.IsTuple l items
  obj := fun l => { cls := .type "tuple_iterator",data := .fields #[.ref l,.int 0 0] }
  get := fun {X pins σ H s a xs} hK I q => by subst hK; obtain ⟨its,r,p,z⟩ := I.tuple q; exact ⟨its,r,p,z⟩
  inj := fun {X pins σ H s a xs ys} hK I q q' => by subst hK; exact I.tuple_inj q q'
  draws := fun A hh it l hne items =>
    { live := fun _ _ st => let ⟨o,ho,_⟩ := st.1; ⟨o,ho⟩
      frame := fun _ _ _ st hk => ⟨let ⟨o,e,r⟩ := st.1; ⟨o,hk it (by simp) o e,r⟩,let ⟨o,e,r⟩ := st.2; ⟨o,hk l (by simp) o e,r⟩⟩
      item := fun i s Q E hi st hQ => M2 st.1 st.2 (x := items[i]) (by simp [hi]) fun h' hit' hs' => hQ _ h' s.toks (by simp [hi]) ⟨hit',st.2.extBut hs'.extBut hne⟩ hs'
      done := fun s Q E st hE => M3 hh st.1 st.2 (by simp) hE }
  ito := fun {h it l i} ⟨o,e,c,d⟩ => ⟨o,e,fun v z => by rw [d] at z; cases z⟩
  itk := fun {h h' it l i} ⟨o,e,r⟩ k => ⟨o,k o e,r⟩
  isk := fun {h h' l items} ⟨o,e,r⟩ k => ⟨o,k o e,r⟩
  iso := fun {h l items} ⟨o,e,_⟩ => ⟨o,e⟩
  ok := True
  itn := fun _ h l => ⟨_,Heap.get?_push_size _ rfl,rfl,rfl⟩
end L2
end
section
namespace L2
open PySem PySem.Spec PyProof.Rows
variable {X : Cx} {pins : List (Addr × Obj)} {σ : St} {H : Hp} {s : Shared} {wr : List Addr} {h' : Heap}
open AutoSeq1 (wpAny_loadPart')
theorem Ae.yielded {tk : Nat} {T : Addr} {vs : List V} {us : List Value} (I : Ae X pins σ H s) (hf : ∀ b ∈ wr,Bp X pins H b)
  (k : ∀ b o,b ∉ wr -> s.heap.get? b = some o -> h'.get? b = some o) (hT : s.heap.objs.size <= T) (ht : IsTup h' T us.toArray) (rv : At vs us) (hz : vs.length <= sizeLine) :
  Ae X pins σ (upd H T (.tup vs)) { s with heap := h',toks := tk } := by
 have hfr : H T = none := I.hok.fresh hT
 have nT : ∀ b u,H b = some u -> b ≠ T := fun b u e => A6 e hfr
 have nW : ∀ b u,H b = some u -> b ∉ wr := fun b u e z => by have := (hf b z).1; rw [e] at this; cases this
 refine I.step (g' := s.gens) (d' := s.drawn) (ch := wr) (fun b hb => let f := hf b hb; ⟨f.2.2.2.1,f.2.1,f.2.2.2.2.1,f.2.2.2.2.2⟩) (fun b o _ _ hc e _ => k b o hc e) (fun b o _ _ hc e _ => ⟨o.slots,k b o hc e⟩)
  (fun b o hc e n => ?_) (fun b o hc e => ⟨o,k b o hc e⟩) (fun b xs e => by rw [Au (nT b _ e)]; exact e) (fun b o xs e => by rw [Au (nT b _ e)]; exact e) (fun b ps e => ⟨#[],by rw [Au (nT b _ e),e]; simp⟩) (fun m hm => ?_) (fun b u e => ?_) I.bare
 ·rw [Au (Nat.ne_of_lt (Nat.lt_of_lt_of_le (Heap.lt_size e) hT))]; exact n
 ·obtain ⟨o,es,ep,ho,r⟩ := hm
  exact ⟨o,es,ep,k _ o (fun z => (hf _ z).2.1 rfl) ho,r⟩
 ·by_cases hb : b = T
  ·subst hb
   rw [Ak] at e; cases e
   exact ⟨hz,us,rv,ht⟩
  ·rw [Au hb] at e
   refine (I.hok b u e).stay (fun c v hc q => k c v ?_ q) (fun c q => by rw [Au (nT c _ q)]; exact q) fun c xs q => by rw [Au (nT c _ q)]; exact q
   rcases hc with z | z
   ·rw [z]; exact nW b u e
   ·exact nW c _ z
theorem Ae.ended {tk : Nat} (I : Ae X pins σ H s) (hf : ∀ b ∈ wr,Bp X pins H b)
  (k : ∀ b o,b ∉ wr -> s.heap.get? b = some o -> h'.get? b = some o) : Ae X pins σ H { s with heap := h',toks := tk } := by
 have nW : ∀ b u,H b = some u -> b ∉ wr := fun b u e z => by have := (hf b z).1; rw [e] at this; cases this
 refine I.step (g' := s.gens) (d' := s.drawn) (ch := wr) (fun b hb => let f := hf b hb; ⟨f.2.2.2.1,f.2.1,f.2.2.2.2.1,f.2.2.2.2.2⟩) (fun b o _ _ hc e _ => k b o hc e) (fun b o _ _ hc e _ => ⟨o.slots,k b o hc e⟩)
  (fun b o hc e n => n) (fun b o hc e => ⟨o,k b o hc e⟩) (fun b xs e => e) (fun b o xs e => e) (fun b ps e => ⟨#[],by rw [e]; simp⟩) (fun m hm => ?_) (fun b u e => ?_) I.bare
 ·obtain ⟨o,es,ep,ho,r⟩ := hm
  exact ⟨o,es,ep,k _ o (fun z => (hf _ z).2.1 rfl) ho,r⟩
 ·refine (I.hok b u e).stay (fun c v hc q => k c v ?_ q) (fun c q => q) fun c xs q => q
  rcases hc with z | z
  ·rw [z]; exact nW b u e
  ·exact nW c _ z
def DG {P : Program} {w : World} {K : PySem.W.Frag} (S : Ba P w K) (a : Addr) : It :=
 ⟨fun i H => ∃ xs x,S.Sq H a xs /\ xs[i]? = some x,fun i H v H' => ∃ T,v = .ref T /\ H T = none /\ ∀ xs x,S.Sq H a xs -> xs[i]? = some x -> H' = upd H T (.tup [.int i,x]),fun i H => ∃ xs,S.Sq H a xs /\ xs.length = i⟩
theorem M4 {P : Program} {w : World} {K : PySem.W.Frag} (S : Ba P w K) {es : List Expr} {k : Nat} {pos : Pos} (a e it : Addr) (hei : e ≠ it) (hai : a ≠ it) (hae : a ≠ e) :
  CC P w K (.Tuple es k pos) (DG S a) [e,it] e (fun i h => (∃ old,IsEnum h e it (i : Nat) old) /\ S.It h it a i) where
 mem := by simp
 obj := fun i h st b hb => by
  obtain ⟨⟨old,he⟩,hi⟩ := st
  rcases List.mem_cons.mp hb with z | hb
  ·rw [z]; exact ⟨_,he,fun v z => by
    have z' : Data.fields _ = Data.cell v := z
    cases z'⟩
  ·rw [List.mem_singleton.mp hb]; exact S.ito hi
 keep := fun i h h' st kk => by
  obtain ⟨⟨old,he⟩,hi⟩ := st
  exact ⟨⟨old,kk e (by simp) _ he⟩,S.itk hi fun o q => kk it (by simp) o q⟩
 item := by
  intro X hP hw hK hc i pins s σ H E I hf st hg
  subst hP hw
  obtain ⟨xs,x,hq,hx⟩ := hg
  obtain ⟨its,rv,is,hz⟩ := S.get hK I hq
  obtain ⟨u,hu,ru⟩ := rv.get hx
  have W := WalksT.enumerateD (S.draws X.A.in1 (I.ok.hd hc) it a hai its.toArray) e hei (by simp [hei,Ne.symm hae]) (by simp)
  have hi : i < its.toArray.size := by have := (List.getElem?_eq_some_iff.mp hu).1; simpa using this
  refine W.item i s _ _ hi ⟨st.1,st.2,is⟩ fun T vals h1 tk hp hT htup hmid hk => ⟨_,rfl,?_⟩
  obtain ⟨t,y,hy,hv⟩ := hp
  have ey : y = u := by
   have q : its.toArray[i]? = some u := by simpa using hu
   rw [q] at hy; exact (Option.some.inj hy).symm
  subst ey hv
  refine W.go es k pos i T { s with heap := h1,toks := tk } _ _ hmid fun h2 st2 hk2 => ?_
  have kk : ∀ b o,b ∉ [e,it] -> s.heap.get? b = some o -> h2.get? b = some o := fun b o hb q => hk2 b o hb (hk b o hb q)
  have htup2 : IsTup h2 T [Value.int i t,y].toArray := by
   obtain ⟨o,q,r⟩ := htup
   exact ⟨o,hk2 T o (W.apart i T h1 hmid) q,r⟩
  exact ⟨.ref T,upd H T (.tup [.int i,x]),I.yielded (tk := tk) (fun b hb => hf b hb) kk hT htup2 (.cons ⟨t,rfl⟩ (.cons ru .nil)) (by show 2 <= sizeLine; decide),rfl,
   ⟨T, rfl, I.hok.fresh hT, fun ys z hy hz => by
    rw [S.inj hK I hy hq,hx] at hz; cases hz; rfl⟩,⟨st2.1,st2.2.1⟩,fun b hb => by
    have hbt : b < s.heap.objs.size := by
     rcases List.mem_cons.mp hb with z | hb
     ·rw [z]; obtain ⟨old,q⟩ := st.1; exact Heap.lt_size q
     ·rw [List.mem_singleton.mp hb]; obtain ⟨o,q,_⟩ := S.ito st.2; exact Heap.lt_size q
    rw [Au (Nat.ne_of_lt (Nat.lt_of_lt_of_le hbt hT))]; exact (hf b hb).1⟩
 done := by
  intro X hP hw hK hc i pins s σ H E I hf st hg
  subst hP hw
  obtain ⟨xs,hq,hx⟩ := hg
  obtain ⟨its,rv,is,hz⟩ := S.get hK I hq
  have W := WalksT.enumerateD (S.draws X.A.in1 (I.ok.hd hc) it a hai its.toArray) e hei (by simp [hei,Ne.symm hae]) (by simp)
  have hn : its.toArray.size = i := by have := rv.length; simp; omega
  rw [hn] at W
  exact W.done s _ _ ⟨st.1,st.2,is⟩ fun h' tk hk => ⟨rfl,I.ended (tk := tk) (fun b hb => hf b hb) hk⟩
 self := fun _ _ _ _ _ st h => by
  obtain ⟨⟨old,he⟩,_⟩ := st
  exact wpAny_pyIter_enum he h
theorem M5 (l : Addr) (items : Array Value) :
    Meets (Builtin.«enumerate.__new__» ⟨[.type "enumerate",.ref l],[]⟩) (fun _ R s => s.heap.IsTuple l items /\ R (.ok (.ret (.ref (s.heap.push { cls := .type "tuple_iterator",data := .fields #[.ref l,.int 0 0] }).objs.size)))
        { s with heap := (s.heap.push { cls := .type "tuple_iterator",data := .fields #[.ref l,.int 0 0] }).push { cls := .type "enumerate",data := .fields #[.none,.bool false,.ref s.heap.objs.size,rawInt 0,.none,.none] } }) :=
  .of_wp fun prog w A R s h => by
    obtain ⟨hp,g,d,tk,os⟩ := s; obtain ⟨hl0,h⟩ := h
    obtain ⟨⟨c0,dct,dt,sl⟩,hl,hc0,n,hd0⟩ := id hl0; replace hc0 : c0 = .type "tuple" := hc0; replace hd0 : dt = .seq items n := hd0; subst hc0 hd0
    have hsub := sub_enumerate; have hL : Heap.IsTuple (Shared.heap ⟨hp,g,d,tk,os⟩) l items := ⟨_,hl,rfl,n,rfl⟩
    wp_walk using wpAny_loadPart' hl
    refine wpAny_stack_any fun st => wpAny_pure ?_; split
    . rename_i c _ _ _ _ _; cases (c == Value.type "enumerate")
      . wp_walk using wpAny_loadPart' hl,wpAny_pyIter_tuple hL; exact ⟨_,rfl,h⟩
      . wp_walk using wpAny_loadPart' hl,wpAny_pyIter_tuple hL; exact ⟨_,rfl,h⟩
    . wp_walk using wpAny_loadPart' hl,wpAny_pyIter_tuple hL; exact ⟨_,rfl,h⟩
theorem M6 {prog : Program} {w : World} {A : Around} {E : Value -> Shared -> Prop} {s : Shared} {l : Addr} {items : Array Value} {Q : Value -> Shared -> Prop} (hL : s.heap.IsTuple l items)
  (h : ∀ h',IsEnum h' (s.heap.objs.size + 1) s.heap.objs.size 0 .none -> h'.IsTupleIter s.heap.objs.size l 0 -> h'.objs.size = s.heap.objs.size + 2 -> (∀ b o,s.heap.get? b = some o -> h'.get? b = some o) -> Q (.ref (s.heap.objs.size + 1)) { s with heap := h' }) :
  wpAny (model prog w) A (call (.type "enumerate") [.ref l]) Q E s := by
 refine callType_new F.called_enumerate (by decide) (F.typeCall_enumerate_1 _) (F.newCall_enumerate_1 _) (fun obj => F.args_object_init_2 obj _) F.entry_enumerate_new (M5 l items) ⟨hL,?_⟩
 have hz : (s.heap.push { cls := .type "tuple_iterator",data := .fields #[.ref l,.int 0 0] }).objs.size = s.heap.objs.size + 1 := Heap.size_push ..
 show _ /\ _; rw [hz]
 have he : IsEnum ((s.heap.push { cls := .type "tuple_iterator",data := .fields #[.ref l,.int 0 0] }).push { cls := .type "enumerate",data := .fields #[.none,.bool false,.ref s.heap.objs.size,rawInt 0,.none,.none] }) (s.heap.objs.size + 1) s.heap.objs.size 0 .none := by
  have := Heap.get?_push_size (s.heap.push { cls := .type "tuple_iterator",data := .fields #[.ref l,.int 0 0] }) (o := { cls := .type "enumerate",data := .fields #[.none,.bool false,.ref s.heap.objs.size,rawInt 0,.none,.none] }) rfl
  rw [hz] at this; exact this
 exact ⟨⟨_,he,rfl⟩,h _ he ⟨_,Heap.get?_push_of_some _ (Heap.get?_push_size _ rfl),rfl,rfl⟩ (by rw [Heap.size_push,hz]) fun b o x => Heap.get?_push_of_some _ (Heap.get?_push_of_some _ x)⟩
def Ju {P : Program} {w : World} {K : PySem.W.Frag} (S : Ba P w K) (ta : TA) : TI := fun σ H R => ta σ H fun vs H1 => ∃ a,vs = [.ref a] /\ (∃ xs,S.Sq H1 a xs) /\ R (DG S a) H1
theorem M7 {es : List Expr} {k : Nat} {p pos pos' : Pos} {a : Expr} {ta : TA} (hg : Gl X "enumerate") (hm : X.mg "enumerate" = none) (ha : PA X [a] ta) (hs : starEach [a] X.env = [(false,eval a X.env)] := by rfl) :
  PI X (.Tuple es k pos') (.Call (.Name "enumerate" p) [a] [] pos) (Ju (Cj X.prog X.w X.K) ta) := by
 intro pins s σ H R I h
 refine Call_ (Cf I hg hm boot_enumerate (PyProof.Rows.callWith_type1 (Ao (ha pos pins s σ H _ I h) fun us s1 ⟨vs,H1,I1,r1,q1⟩ => ?_) hs rfl))
 obtain ⟨l,e,⟨xs,hq⟩,q⟩ := q1
 subst e
 obtain ⟨u,rfl,ru⟩ := r1.one
 cases ru
 obtain ⟨its,rv,is,hz⟩ := I1.tuple hq
 obtain ⟨ol,hol,hol2⟩ := id is
 have hlt := Heap.lt_size hol
 refine M6 (items := its.toArray) ⟨ol,hol,hol2⟩ fun h' hE hI hsz hk => ?_
 have I2 : Ae X pins σ H1 { s1 with heap := h' } := I1.kept (t' := s1.toks) hk
 refine wpAny_pyIter_enum hE ⟨s1.heap.objs.size + 1,[s1.heap.objs.size + 1,s1.heap.objs.size],_,_,H1,rfl,I2,M4 (Cj X.prog X.w X.K) l (s1.heap.objs.size + 1) s1.heap.objs.size (Nat.succ_ne_self _) (Nat.ne_of_lt hlt) (Nat.ne_of_lt (Nat.lt_succ_of_lt hlt)),⟨⟨_,hE⟩,hI⟩,fun b hb => ?_,q⟩
 rcases List.mem_cons.mp hb with z | hb
 ·rw [z]; exact I1.fpOk (Nat.le_succ _) (I1.hok.fresh (Nat.le_succ _))
 ·rw [List.mem_singleton.mp hb]; exact I1.fpOk (Nat.le_refl _) (I1.hok.fresh (Nat.le_refl _))
end L2
end
section
namespace L2
open PySem PySem.Spec PyProof.Rows
variable {k : Nat} {a1 a2 : Value} {X : Cx} {p pos' : Pos} {e1 e2 : Expr} {ta : TA}
open AutoSeq1 (wpAny_loadPart')
def Dr {P : Program} {w : World} {K : PySem.W.Frag} (S : Ba P w K) (it l : Addr) (xs : Array Value) (k : Nat) (h : Heap) : Prop := S.It h it l k /\ S.Is h l xs
theorem Dr.ext {P : Program} {w : World} {K : PySem.W.Frag} {S : Ba P w K} {it l b : Addr} {xs : Array Value} {h h' : Heap} (d : Dr S it l xs k h) (e : Heap.ExtBut b h h') (h1 : it ≠ b) (h2 : l ≠ b) : Dr S it l xs k h' :=
 ⟨S.itk d.1 fun o q => e it o h1 q,S.isk d.2 fun o q => e l o h2 q⟩
abbrev Ck (h : Heap) (z TI TO : Addr) (f0 f1 : Value) : Prop := h.get? z = some { cls := .type "zip",dict := none,data := .fields #[f0,f1,.bool false,.ref TI,.ref TO],slots := #[] }
def FB (h : Heap) (z TI TO : Addr) : Prop := ∃ f0 f1,Ck h z TI TO f0 f1 /\ (f0 = .none \/ ∃ T : Addr,f0 = rawInt T) /\ (f1 = .bool false \/ f1 = .bool true)
theorem M8 {M : Model} {A : Around} {E : Value -> Shared -> Prop} {s : Shared} {a : Addr} {Q : Option Obj -> Shared -> Prop} (h : Q (s.heap.get? a) s) : wpAny M A (loadIfAlive a) Q E s := fun _ _ _ => h
theorem Jv {P : Program} {w : World} {A : Around} {E : Value -> Shared -> Prop} {s : Shared} {z TI TO : Addr} {Q : Bool -> Shared -> Prop} (hz : FB s.heap z TI TO) (h1 : ∀ f0 f1,Ck s.heap z TI TO f0 f1 -> Q true s)
  (h2 : ∀ g0,∀ T : Addr,∀ f1 f2,Ck s.heap z TI TO (rawInt T) f1 -> Ck g0 z TI TO (rawInt T) f2 -> (f2 = .bool false \/ f2 = .bool true) -> Heap.SameBut z s.heap g0 -> Q false { s with heap := g0 }) :
  wpAny (model P w) A (Builtin.SmallTypes.ownedTupleIsFree (.ref z)) Q E s := by
 obtain ⟨f0,f1,hz,hf0,hf1⟩ := hz
 unfold Builtin.SmallTypes.ownedTupleIsFree
 refine wpAny_bind (wpAny_field hz rfl (x := f0) rfl ?_)
 rcases hf0 with rfl | ⟨T,rfl⟩
 ·exact wpAny_pure (h1 _ _ hz)
 ·show wpAny _ _ (loadIfAlive T >>= _) _ _ _
  refine wpAny_bind (M8 ?_)
  cases hTa : s.heap.get? T with
  | none =>
   simp only [Option.isNone_none,if_true]
   exact wpAny_pure (h1 _ _ hz)
  | some oT =>
   simp only [Option.isNone_some,Bool.false_eq_true,if_false]
   show wpAny _ _ (field (.ref z) 1 >>= _) _ _ _
   refine wpAny_bind (wpAny_field hz rfl (x := f1) rfl ?_)
   rcases hf1 with rfl | rfl
   ·exact wpAny_bind (wpAny_setField_rec hz (by simp) fun g0 hz0 hs0 => wpAny_pure (h2 g0 T _ _ hz hz0 (.inr rfl) hs0))
   ·exact wpAny_bind (wpAny_pure (wpAny_pure (h2 s.heap T _ _ hz hz (.inr rfl) ⟨rfl,fun _ _ => rfl⟩)))
structure FC (z TI TO i1 i2 l1 l2 : Addr) : Prop where
 TI_z : TI ≠ z
 TO_z : TO ≠ z
 TO_TI : TO ≠ TI
 i1_z : i1 ≠ z
 i1_TI : i1 ≠ TI
 i1_TO : i1 ≠ TO
 i2_z : i2 ≠ z
 i2_TI : i2 ≠ TI
 i2_TO : i2 ≠ TO
 i2_i1 : i2 ≠ i1
 l1_z : l1 ≠ z
 l1_TO : l1 ≠ TO
 l1_i1 : l1 ≠ i1
 l1_i2 : l1 ≠ i2
 l2_z : l2 ≠ z
 l2_TO : l2 ≠ TO
 l2_i1 : l2 ≠ i1
 l2_i2 : l2 ≠ i2
abbrev Br (h : Heap) (T : Addr) (a1 a2 : Value) : Prop := h.get? T = some { cls := .type "tuple",data := .seq #[a1,a2] }
theorem Jw {prog : Program} {w : World} {A : Around} {E : Value -> Shared -> Prop} {s : Shared} {T : Addr} {x : Value} {Q : Unit -> Shared -> Prop} (hT : Br s.heap T a1 a2)
  (h : ∀ h',h'.get? T = some { cls := .type "tuple",data := .seq ((#[a1,a2] : Array Value).setIfInBounds k x) } -> Heap.SameBut T s.heap h' -> Q () { s with heap := h' }) :
  wpAny (model prog w) A (updateSeq T (·.setIfInBounds k x)) Q E s := by
 have got := Heap.get?_update_self (Obj.mapSeq fun y => y.setIfInBounds k x) hT rfl
 exact wpAny_updateSeq hT rfl (h _ (got.trans (by simp [Obj.mapSeq])) (Heap.SameBut.update ..))
section
variable {P : Program} {w : World} {K : PySem.W.Frag} {A : Around} {E : Value -> Shared -> Prop} {s : Shared} (S1 S2 : Ba P w K)
theorem M9 {z TI TO i1 i2 l1 l2 : Addr} {k : Nat} {xs1 xs2 : Array Value} {x1 x2 a1 a2 : Value} {Q : Value -> Shared -> Prop} (hh : A.handled = none) (D : FC z TI TO i1 i2 l1 l2) (hz : FB s.heap z TI TO) (hTI : Br s.heap TI (.ref i1) (.ref i2)) (hTO : Br s.heap TO a1 a2) (h1 : Dr S1 i1 l1 xs1 k s.heap) (h2 : Dr S2 i2 l2 xs2 k s.heap) (hx1 : xs1[k]? = some x1) (hx2 : xs2[k]? = some x2)
  (hQ : ∀ h' tk, FB h' z TI TO -> (IsZip h' z TI TO (rawInt s.heap.objs.size) \/ IsZip s.heap z TI TO .none -> IsZip h' z TI TO (rawInt s.heap.objs.size)) -> (∃ a1 a2, Br h' TO a1 a2) -> Dr S1 i1 l1 xs1 (k + 1) h' -> Dr S2 i2 l2 xs2 (k + 1) h' -> Br h' s.heap.objs.size x1 x2 -> h'.objs.size = s.heap.objs.size + 1 ->
   (∀ c o,c ≠ z -> c ≠ TO -> c ≠ i1 -> c ≠ i2 -> s.heap.get? c = some o -> h'.get? c = some o) -> Q (.ref s.heap.objs.size) { s with heap := h',toks := tk }) :
  wpAny (model P w) A (Builtin.«zip.__next__» ⟨[.ref z],[]⟩) (fun fin s' => ∃ v,fin = .done (.ret v) /\ Q v s') E s := by
 have hl1 : k < xs1.size := (Array.getElem?_eq_some_iff.mp hx1).1
 have hl2 : k < xs2.size := (Array.getElem?_eq_some_iff.mp hx2).1
 have D1 := fun (A : Around) (hh : A.handled = none) => S1.draws A hh i1 l1 D.l1_i1 xs1
 have D2 := fun (A : Around) (hh : A.handled = none) => S2.draws A hh i2 l2 D.l2_i2 xs2
 obtain ⟨f0',f1',hz',hf0',hf1'⟩ := id hz
 show wpAny _ _ (field (.ref z) 2 >>= _) _ _ _; refine wpAny_bind (wpAny_field hz' rfl (x := .bool false) rfl ?_)
 show wpAny _ _ (field (.ref z) 3 >>= _) _ _ _; refine wpAny_bind (wpAny_field hz' rfl (x := .ref TI) rfl ?_)
 refine wpAny_bind (wpAny_seqItems hTI rfl ?_); show wpAny _ _ (Builtin.SmallTypes.ownedTupleIsFree (.ref z) >>= _) _ _ _
 refine wpAny_bind (Jv hz (fun f0 f1 hz => ?_) fun g0 T f1 f2 hzs hz0 hf2 hs0 => ?_)
 ·simp only [if_true]
  refine wpAny_bind (wpAny_rule ?_); refine wpAny_bind (wpAny_field hz rfl (x := .ref TO) rfl ?_)
  refine wpAny_bind (wpAny_setField_rec hz (by simp) fun g0 hz0 hs0 => ?_); replace hz0 : Ck g0 z TI TO .ellipsis f1 := hz0
  refine wpAny_bind ?_; simp only [List.zipIdx_cons,List.zipIdx_nil,List.forIn_cons,List.forIn_nil]
  refine wpAny_bind (wpAny_bind (wpAny_onRaise ?_)); show wpAny _ _ (Builtin.SmallTypes.nextOf (.ref i1) >>= _) _ _ _
  refine wpAny_bind ((D1 _ hh).item k _ _ _ hl1 (Dr.ext h1 hs0.extBut D.i1_z D.l1_z) fun y1 g1 tk1 hy1 hd1 hs1 => wpAny_pure ?_)
  have ex1 : y1 = x1 := by rw [hx1] at hy1; exact (Option.some.inj hy1).symm
  subst ex1
  have hd1' : Dr S1 i1 l1 xs1 (k + 1) g1 := hd1
  have hT1 : Br g1 TO a1 a2 := (hs1.extBut _ _ D.i1_TO.symm (hs0.extBut _ _ D.TO_z hTO))
  refine wpAny_bind (wpAny_seqItems hT1 rfl ?_); refine wpAny_bind (Jw hT1 fun g2 hU1 hs2 => ?_)
  replace hU1 : Br g2 TO y1 a2 := hU1
  refine wpAny_bind (wpAny_letGo (wpAny_pure ?_))
  refine wpAny_bind (wpAny_bind (wpAny_onRaise ?_)); show wpAny _ _ (Builtin.SmallTypes.nextOf (.ref i2) >>= _) _ _ _
  refine wpAny_bind ((D2 _ hh).item k _ _ _ hl2 (Dr.ext (Dr.ext (Dr.ext h2 hs0.extBut D.i2_z D.l2_z) hs1.extBut D.i2_i1 D.l2_i1) hs2.extBut D.i2_TO D.l2_TO) fun y2 g3 tk2 hy2 hd2 hs3 => wpAny_pure ?_)
  have ex2 : y2 = x2 := by rw [hx2] at hy2; exact (Option.some.inj hy2).symm
  subst ex2
  have hd2' : Dr S2 i2 l2 xs2 (k + 1) g3 := hd2
  have hT2 : Br g3 TO y1 a2 := (hs3.extBut _ _ D.i2_TO.symm hU1)
  refine wpAny_bind (wpAny_seqItems hT2 rfl ?_); refine wpAny_bind (Jw hT2 fun g4 hU2 hs4 => ?_)
  replace hU2 : Br g4 TO y1 y2 := hU2
  refine wpAny_bind (wpAny_letGo (wpAny_pure (wpAny_pure ?_)))
  refine wpAny_bind (wpAny_seqItems hU2 rfl ?_); refine wpAny_bind (wpAny_newTuple ?_)
  have hsz : g4.objs.size = s.heap.objs.size := by rw [hs4.1,hs3.1,hs2.1,hs1.1,hs0.1]
  have hz5 : Ck g4 z TI TO .ellipsis f1 := (hs4.extBut _ _ D.TO_z.symm (hs3.extBut _ _ D.i2_z.symm (hs2.extBut _ _ D.TO_z.symm (hs1.extBut _ _ D.i1_z.symm hz0))))
  have hk5 : ∀ c o,c ≠ z -> c ≠ TO -> c ≠ i1 -> c ≠ i2 -> s.heap.get? c = some o -> g4.get? c = some o := fun c o cz cTO ci1 ci2 e => (hs4.extBut _ _ cTO (hs3.extBut _ _ ci2 (hs2.extBut _ _ cTO (hs1.extBut _ _ ci1 (hs0.extBut _ _ cz e)))))
  have he1 : Dr S1 i1 l1 xs1 (k + 1) g4 := (Dr.ext (Dr.ext (Dr.ext hd1' hs2.extBut D.i1_TO D.l1_TO) hs3.extBut D.i2_i1.symm D.l1_i2) hs4.extBut D.i1_TO D.l1_TO)
  have he2 : Dr S2 i2 l2 xs2 (k + 1) g4 := (Dr.ext hd2' hs4.extBut D.i2_TO D.l2_TO)
  have hzlt : z < g4.objs.size := Heap.lt_size hz5
  show wpAny _ _ (Builtin.SmallTypes.ownedTupleHandOut (.ref z) (.ref g4.objs.size) >>= _) _ _ _; refine wpAny_bind ?_; unfold Builtin.SmallTypes.ownedTupleHandOut
  have hz6 : Ck (g4.push { cls := .type "tuple",data := .seq #[y1,y2] }) z TI TO .ellipsis f1 := Heap.get?_push_of_some _ hz5
  refine wpAny_bind (wpAny_setField_rec hz6 (by simp) fun ga hza hsa => ?_); replace hza : Ck ga z TI TO (rawInt g4.objs.size) f1 := hza
  refine wpAny_setField_rec hza (by simp) fun gb hzb hsb => ?_; replace hzb : Ck gb z TI TO (rawInt g4.objs.size) (.bool false) := hzb
  have up : ∀ c o,c ≠ z -> g4.get? c = some o -> gb.get? c = some o := fun c o c1 e => hsb.extBut _ _ c1 (hsa.extBut _ _ c1 (Heap.get?_push_of_some _ e))
  have hTb : Br gb g4.objs.size y1 y2 := hsb.extBut _ _ (Nat.ne_of_gt hzlt) (hsa.extBut _ _ (Nat.ne_of_gt hzlt) (Heap.get?_push_size _ rfl))
  have hsb8 : gb.objs.size = g4.objs.size + 1 := by rw [hsb.1,hsa.1,Heap.size_push]
  have upE : Heap.ExtBut z g4 gb := fun c o c1 e => up c o c1 e
  rw [hsz] at hzb hTb hsb8
  refine wpAny_pure ⟨_,rfl,?_⟩; show Q (.ref g4.objs.size) _; rw [hsz]
  exact hQ gb _ ⟨_,_,hzb,.inr ⟨_,rfl⟩,.inl rfl⟩ (fun _ => hzb) ⟨_,_,up _ _ D.TO_z hU2⟩ (he1.ext upE D.i1_z D.l1_z) (he2.ext upE D.i2_z D.l2_z) hTb hsb8 fun c o cz cTO ci1 ci2 e => up c o cz (hk5 c o cz cTO ci1 ci2 e)
 ·simp only [Bool.false_eq_true,if_false]
  refine wpAny_bind ?_; simp only [<- Array.forIn_toList,List.forIn_cons,List.forIn_nil]
  refine wpAny_bind (wpAny_bind (wpAny_holding ?_)); show wpAny _ _ (Builtin.SmallTypes.nextOf (.ref i1) >>= _) _ _ _
  refine wpAny_bind ((D1 _ hh).item k _ _ _ hl1 (Dr.ext h1 hs0.extBut D.i1_z D.l1_z) fun y1 g1 tk1 hy1 hd1 hs1 => wpAny_pure ?_)
  have ex1 : y1 = x1 := by rw [hx1] at hy1; exact (Option.some.inj hy1).symm
  subst ex1
  have hd1' : Dr S1 i1 l1 xs1 (k + 1) g1 := hd1
  refine wpAny_pure ?_
  refine wpAny_bind (wpAny_bind (wpAny_holding ?_)); show wpAny _ _ (Builtin.SmallTypes.nextOf (.ref i2) >>= _) _ _ _
  refine wpAny_bind ((D2 _ hh).item k _ _ _ hl2 (Dr.ext (Dr.ext h2 hs0.extBut D.i2_z D.l2_z) hs1.extBut D.i2_i1 D.l2_i1) fun y2 g2 tk2 hy2 hd2 hs2 => wpAny_pure ?_)
  have ex2 : y2 = x2 := by rw [hx2] at hy2; exact (Option.some.inj hy2).symm
  subst ex2
  have hd2' : Dr S2 i2 l2 xs2 (k + 1) g2 := hd2
  refine wpAny_pure (wpAny_pure ?_)
  show wpAny _ _ (newTuple [y1,y2] >>= _) _ _ _; refine wpAny_bind (wpAny_newTuple ?_)
  have hsz : g2.objs.size = s.heap.objs.size := by rw [hs2.1,hs1.1,hs0.1]
  have hz5 : Ck g2 z TI TO (rawInt T) f2 := (hs2.extBut _ _ D.i2_z.symm (hs1.extBut _ _ D.i1_z.symm hz0))
  have hT5 : Br g2 TO a1 a2 := (hs2.extBut _ _ D.i2_TO.symm (hs1.extBut _ _ D.i1_TO.symm (hs0.extBut _ _ D.TO_z hTO)))
  have he1 : Dr S1 i1 l1 xs1 (k + 1) g2 := (Dr.ext hd1' hs2.extBut D.i2_i1.symm D.l1_i2)
  have he2 : Dr S2 i2 l2 xs2 (k + 1) g2 := hd2'
  have hTb : Br (g2.push { cls := .type "tuple",data := .seq #[y1,y2] }) g2.objs.size y1 y2 := Heap.get?_push_size _ rfl
  have hb8 : (g2.push { cls := .type "tuple",data := .seq #[y1,y2] }).objs.size = g2.objs.size + 1 := Heap.size_push ..
  refine wpAny_pure ⟨_,rfl,?_⟩; show Q (.ref g2.objs.size) _
  have res := hQ (g2.push { cls := .type "tuple",data := .seq #[y1,y2] }) tk2 ⟨_,_,Heap.get?_push_of_some _ hz5,.inr ⟨_,rfl⟩,hf2⟩ (fun c => c.elim id fun c => absurd (congrArg (fun o : Obj => o.data) (Option.some.inj (hzs.symm.trans c))) (by simp [rawInt])) ⟨_,_,Heap.get?_push_of_some _ hT5⟩ ⟨S1.itk he1.1 fun o q => Heap.get?_push_of_some _ q,S1.isk he1.2 fun o q => Heap.get?_push_of_some _ q⟩ ⟨S2.itk he2.1 fun o q => Heap.get?_push_of_some _ q,S2.isk he2.2 fun o q => Heap.get?_push_of_some _ q⟩ (by rw [<- hsz]; exact hTb) (by rw [hb8,hsz]) fun c o cz cTO ci1 ci2 e => Heap.get?_push_of_some _ (hs2.extBut _ _ ci2 (hs1.extBut _ _ ci1 (hs0.extBut _ _ cz e)))
  rw [hsz]; exact res
theorem Na {z TI TO i1 i2 l1 l2 : Addr} {xs1 xs2 : Array Value} {Q : Fin -> Shared -> Prop} (hh : A.handled = none) (D : FC z TI TO i1 i2 l1 l2) (hz : FB s.heap z TI TO) (hTI : Br s.heap TI (.ref i1) (.ref i2)) (hTO : Br s.heap TO a1 a2) (h1 : Dr S1 i1 l1 xs1 k s.heap) (h2 : Dr S2 i2 l2 xs2 k s.heap)  (hend : k = xs1.size)
  (hE : ∀ h' tk e,(∀ c o,c ≠ z -> c ≠ TO -> c ≠ i1 -> c ≠ i2 -> s.heap.get? c = some o -> h'.get? c = some o) -> (∃ o,h'.get? e = some o /\ o.cls = .type "StopIteration") -> E (.ref e) { s with heap := h',toks := tk }) :
  wpAny (model P w) A (Builtin.«zip.__next__» ⟨[.ref z],[]⟩) Q E s := by
 have D1 := fun (A : Around) (hh : A.handled = none) => S1.draws A hh i1 l1 D.l1_i1 xs1
 have D2 := fun (A : Around) (hh : A.handled = none) => S2.draws A hh i2 l2 D.l2_i2 xs2
 obtain ⟨f0',f1',hz',hf0',hf1'⟩ := id hz
 show wpAny _ _ (field (.ref z) 2 >>= _) _ _ _; refine wpAny_bind (wpAny_field hz' rfl (x := .bool false) rfl ?_)
 show wpAny _ _ (field (.ref z) 3 >>= _) _ _ _; refine wpAny_bind (wpAny_field hz' rfl (x := .ref TI) rfl ?_)
 refine wpAny_bind (wpAny_seqItems hTI rfl ?_); show wpAny _ _ (Builtin.SmallTypes.ownedTupleIsFree (.ref z) >>= _) _ _ _
 refine wpAny_bind (Jv hz (fun f0 f1 hz => ?_) fun g0 T f1 f2 hzs hz0 hf2 hs0 => ?_)
 ·simp only [if_true]
  refine wpAny_bind (wpAny_rule ?_); refine wpAny_bind (wpAny_field hz rfl (x := .ref TO) rfl ?_)
  refine wpAny_bind (wpAny_setField_rec hz (by simp) fun g0 hz0 hs0 => ?_); replace hz0 : Ck g0 z TI TO .ellipsis f1 := hz0
  refine wpAny_bind ?_; simp only [List.zipIdx_cons,List.zipIdx_nil,List.forIn_cons,List.forIn_nil]
  refine wpAny_bind (wpAny_bind (wpAny_onRaise ?_)); show wpAny _ _ (Builtin.SmallTypes.nextOf (.ref i1) >>= _) _ _ _
  have hcur := (Dr.ext h1 hs0.extBut D.i1_z D.l1_z)
  subst hend
  refine wpAny_bind ((D1 _ hh).done _ _ _ hcur fun ge e hse he => ?_)
  obtain ⟨oe,hoe,hce⟩ := he
  have hze : Ck ge z TI TO .ellipsis f1 := hse _ _ D.i1_z.symm hz0
  have hez : e ≠ z := fun x => by subst x; rw [hze] at hoe; cases hoe; simp at hce
  exact wpAny_setField_rec hze (by simp) fun gf _ hsf => hE gf _ e (fun c o cz cTO ci1 ci2 x => hsf.extBut _ _ cz (hse _ _ ci1 (hs0.extBut _ _ cz x))) ⟨oe,hsf.extBut _ _ hez hoe,hce⟩
 ·simp only [Bool.false_eq_true,if_false]
  refine wpAny_bind ?_; simp only [<- Array.forIn_toList,List.forIn_cons,List.forIn_nil]
  refine wpAny_bind (wpAny_bind (wpAny_holding ?_)); show wpAny _ _ (Builtin.SmallTypes.nextOf (.ref i1) >>= _) _ _ _
  have hcur := (Dr.ext h1 hs0.extBut D.i1_z D.l1_z)
  subst hend
  refine wpAny_bind ((D1 _ hh).done _ _ _ hcur fun ge e hse he => ?_)
  obtain ⟨oe,hoe,hce⟩ := he
  exact hE ge _ e (fun c o cz cTO ci1 ci2 x => hse _ _ ci1 (hs0.extBut _ _ cz x)) ⟨oe,hoe,hce⟩
end
abbrev FE {P : Program} {w : World} {K : PySem.W.Frag} (S1 S2 : Ba P w K) (h : Heap) (l1 l2 : Addr) : Heap := (h).push (S1.obj l1)
abbrev FF {P : Program} {w : World} {K : PySem.W.Frag} (S1 S2 : Ba P w K) (h : Heap) (l1 l2 : Addr) : Heap := (FE S1 S2 h l1 l2).push (S2.obj l2)
abbrev FG {P : Program} {w : World} {K : PySem.W.Frag} (S1 S2 : Ba P w K) (h : Heap) (l1 l2 : Addr) : Heap := (FF S1 S2 h l1 l2).push { cls := .type "tuple",data := .seq #[.ref h.objs.size,.ref (FE S1 S2 h l1 l2).objs.size] }
abbrev FH {P : Program} {w : World} {K : PySem.W.Frag} (S1 S2 : Ba P w K) (h : Heap) (l1 l2 : Addr) : Heap := (FG S1 S2 h l1 l2).push { cls := .type "tuple",data := .seq #[.none,.none] }
abbrev CY {P : Program} {w : World} {K : PySem.W.Frag} (S1 S2 : Ba P w K) (h : Heap) (l1 l2 : Addr) : Heap := (FH S1 S2 h l1 l2).push { cls := .type "zip",data := .fields #[.none,.bool false,.bool false,.ref (FF S1 S2 h l1 l2).objs.size,.ref (FG S1 S2 h l1 l2).objs.size] }
def FI {P : Program} {w : World} {K : PySem.W.Frag} (S1 S2 : Ba P w K) : Prop := S1.ok /\ S2.ok /\ ∀ (l1 l2 : Addr) (xs1 xs2 : Array Value),
  Meets (Builtin.«zip.__new__» ⟨[.type "zip",.ref l1,.ref l2],[]⟩) (fun _ R s => S1.Is s.heap l1 xs1 /\ S2.Is s.heap l2 xs2 /\ R (.ok (.ret (.ref (FH S1 S2 s.heap l1 l2).objs.size))) { s with heap := CY S1 S2 s.heap l1 l2 })
theorem Nb {X : Cx} {p pos : Pos} {e1 e2 : Expr} {ta : TA} (S1 S2 : Ba X.prog X.w X.K) (zn : FI S1 S2) (hg : Gl X "zip") (hm : X.mg "zip" = none) (ha : PA X [e1,e2] ta) (hs1 : starEach [e1,e2] X.env = [(false,eval e1 X.env),(false,eval e2 X.env)]) (hs2 : starEach [e2] X.env = [(false,eval e2 X.env)])
  {pins : List (Addr × Obj)} {s : Shared} {σ : St} {H : Hp} {R : Addr -> Addr -> Hp -> Prop} (I : Ae X pins σ H s) (h : ta σ H fun vs H1 => ∃ l1 l2,vs = [.ref l1,.ref l2] /\ (∃ xs,S1.Sq H1 l1 xs) /\ (∃ xs,S2.Sq H1 l2 xs) /\ R l1 l2 H1) :
  wpAny (model X.prog X.w) X.A (eval (.Call (.Name "zip" p) [e1,e2] [] pos) X.env) (fun v s1 => ∃ l1 l2 H1,∃ m : Nat,v = .ref (m + 4) /\ R l1 l2 H1 /\ Ae X pins σ H1 s1 /\ IsZip s1.heap (m + 4) (m + 2) (m + 3) .none /\ Br s1.heap (m + 2) (.ref m) (.ref (m + 1)) /\ Br s1.heap (m + 3) .none .none /\ S1.It s1.heap m l1 0 /\ S2.It s1.heap (m + 1) l2 0 /\ l1 < m /\ l2 < m /\ (∀ b,m <= b -> Bp X pins H1 b) /\ s1.heap.objs.size = m + 5) X.xe s := by
 refine Call_ (Cf I hg hm boot_zip (PyProof.Rows.callWith_type1 (Ao (ha pos pins s σ H _ I h) fun us s1 ⟨vs,H1,I1,r1,q1⟩ => ?_) (by rw [hs1,hs2]) (by rw [hs2]; rfl)))
 obtain ⟨l1,l2,e,⟨xs1,hq1⟩,⟨xs2,hq2⟩,q⟩ := q1
 subst e
 rcases r1 with _ | ⟨ru1,r1⟩
 rcases r1 with _ | ⟨ru2,r1⟩
 cases r1
 cases ru1; cases ru2
 obtain ⟨its1,rv1,is1,_⟩ := S1.get rfl I1 hq1
 obtain ⟨its2,rv2,is2,_⟩ := S2.get rfl I1 hq2
 obtain ⟨o1,ho1⟩ := S1.iso is1
 have hl1 := Heap.lt_size ho1
 obtain ⟨o2,ho2⟩ := S2.iso is2
 have hl2 := Heap.lt_size ho2
 refine callType_new F.called_zip (by decide) (F.typeCall_zip_2 _ _) (F.newCall_zip_2 _ _) (fun obj => F.args_object_init_3 obj _ _) F.entry_zip_new (zn.2.2 l1 l2 its1.toArray its2.toArray) ⟨is1,is2,?_⟩
 have z1 : (FE S1 S2 s1.heap l1 l2).objs.size = s1.heap.objs.size + 1 := by rw [Heap.size_push]
 have z2 : (FF S1 S2 s1.heap l1 l2).objs.size = s1.heap.objs.size + 2 := by rw [Heap.size_push,z1]
 have z3 : (FG S1 S2 s1.heap l1 l2).objs.size = s1.heap.objs.size + 3 := by rw [Heap.size_push,z2]
 have z4 : (FH S1 S2 s1.heap l1 l2).objs.size = s1.heap.objs.size + 4 := by rw [Heap.size_push,z3]
 have zz : (CY S1 S2 s1.heap l1 l2).objs.size = s1.heap.objs.size + 5 := by rw [Heap.size_push,z4]
 have gz : (CY S1 S2 s1.heap l1 l2).get? (FH S1 S2 s1.heap l1 l2).objs.size = some _ := Heap.get?_push_size _ rfl
 have gO : (CY S1 S2 s1.heap l1 l2).get? (FG S1 S2 s1.heap l1 l2).objs.size = some _ := Heap.get?_push_of_some _ (Heap.get?_push_size _ rfl)
 have gI : (CY S1 S2 s1.heap l1 l2).get? (FF S1 S2 s1.heap l1 l2).objs.size = some _ := Heap.get?_push_of_some _ (Heap.get?_push_of_some _ (Heap.get?_push_size _ rfl))
 have g1 : S1.It (CY S1 S2 s1.heap l1 l2) s1.heap.objs.size l1 0 := S1.itk (S1.itn zn.1 _ _) fun o q => Heap.get?_push_of_some _ (Heap.get?_push_of_some _ (Heap.get?_push_of_some _ (Heap.get?_push_of_some _ (q))))
 have g2 : S2.It (CY S1 S2 s1.heap l1 l2) (FE S1 S2 s1.heap l1 l2).objs.size l2 0 := S2.itk (S2.itn zn.2.1 _ _) fun o q => Heap.get?_push_of_some _ (Heap.get?_push_of_some _ (Heap.get?_push_of_some _ (q)))
 have kk : ∀ b o,s1.heap.get? b = some o -> (CY S1 S2 s1.heap l1 l2).get? b = some o := fun b o x => Heap.get?_push_of_some _ (Heap.get?_push_of_some _ (Heap.get?_push_of_some _ (Heap.get?_push_of_some _ (Heap.get?_push_of_some _ (x)))))
 show _ /\ _
 rw [z2,z3,z4] at gz; rw [z3] at gO; rw [z1,z2] at gI; rw [z4]
 rw [z1] at g2
 generalize CY S1 S2 s1.heap l1 l2 = hE at g1 g2 gI gO gz kk zz ⊢
 have I2 : Ae X pins σ H1 { s1 with heap := hE } := I1.kept (t' := s1.toks) kk
 exact ⟨⟨_,gz,rfl⟩,l1,l2,H1,s1.heap.objs.size,rfl,q,I2,gz,gI,gO,g1,g2,hl1,hl2,fun b hb => I1.fpOk hb (I1.hok.fresh hb),zz⟩
set_option maxHeartbeats 8000000 in
theorem Nc (P : Program) (w : World) (K : PySem.W.Frag) : FI (Cj P w K) (Hv P w K) := ⟨trivial,trivial,fun l1 l2 xs1 xs2 =>
 .of_wp fun prog w A R s h => by
  obtain ⟨hp,g,d,tk,os⟩ := s; obtain ⟨hl1,hl2,h⟩ := h; have hsub := sub_zip
  have hL1 : Heap.IsTuple (Shared.heap ⟨hp,g,d,tk,os⟩) l1 xs1 := hl1
  have hL2 : Heap.IsList (Shared.heap ⟨(hp).push { cls := .type "tuple_iterator",data := .fields #[.ref l1,.int 0 0] },g,d,tk,os⟩) l2 xs2 := Heap.IsList.push (hl2) _
  wp_walk using wpAny_pyIter_tuple hL1,wpAny_pyIter_list hL2
  exact ⟨_,rfl,h⟩⟩
set_option maxHeartbeats 8000000 in
theorem Nd (P : Program) (w : World) (K : PySem.W.Frag) : FI (Cj P w K) (Cj P w K) := ⟨trivial,trivial,fun l1 l2 xs1 xs2 =>
 .of_wp fun prog w A R s h => by
  obtain ⟨hp,g,d,tk,os⟩ := s; obtain ⟨hl1,hl2,h⟩ := h; have hsub := sub_zip
  have hL1 : Heap.IsTuple (Shared.heap ⟨hp,g,d,tk,os⟩) l1 xs1 := hl1
  have hL2 : Heap.IsTuple (Shared.heap ⟨(hp).push { cls := .type "tuple_iterator",data := .fields #[.ref l1,.int 0 0] },g,d,tk,os⟩) l2 xs2 := Heap.IsTuple.push (hl2) _
  wp_walk using wpAny_pyIter_tuple hL1,wpAny_pyIter_tuple hL2
  exact ⟨_,rfl,h⟩⟩
theorem Nf {n l1 l2 : Nat} (h1 : l1 < n) (h2 : l2 < n) : FC (n + 4) (n + 2) (n + 3) n (n + 1) l1 l2 := by constructor <;> intro z <;> (have z' := z; revert z'; intro z'; try (change (_ : Nat) = _ at z'); omega)
def DH {P : Program} {w : World} {K : PySem.W.Frag} (S1 S2 : Ba P w K) (a b : Addr) : It :=
 ⟨fun i H => ∃ xs ys x y,S1.Sq H a xs /\ S2.Sq H b ys /\ xs[i]? = some x /\ ys[i]? = some y,fun i H v H' => ∃ T,v = .ref T /\ H T = none /\ ∀ xs ys x y,S1.Sq H a xs -> S2.Sq H b ys -> xs[i]? = some x -> ys[i]? = some y -> H' = upd H T (.tup [x,y]),
  fun i H => ∃ xs ys,S1.Sq H a xs /\ S2.Sq H b ys /\ xs.length = i⟩
theorem Ng {P : Program} {w : World} {K : PySem.W.Frag} (S1 S2 : Ba P w K) {es : List Expr} {k : Nat} {pos : Pos} (z TI TO i1 i2 l1 l2 : Addr) (D : FC z TI TO i1 i2 l1 l2) :
  CC P w K (.Tuple es k pos) (DH S1 S2 l1 l2) [z,TI,TO,i1,i2] z (fun i h => IsZip h z TI TO .none /\ Br h TI (.ref i1) (.ref i2) /\ (∃ a b,Br h TO a b) /\ S1.It h i1 l1 i /\ S2.It h i2 l2 i) where
 mem := by simp
 obj := fun i h st b hb => by
  obtain ⟨hz,hTI,⟨a,b',hTO⟩,h1,h2⟩ := st
  simp only [List.mem_cons,List.not_mem_nil,or_false] at hb
  rcases hb with e | e | e | e | e <;> rw [e]
  ·exact ⟨_,hz,fun v q => by have q' : Data.fields _ = Data.cell v := q; cases q'⟩
  ·exact ⟨_,hTI,fun v q => by have q' : Data.seq _ _ = Data.cell v := q; cases q'⟩
  ·exact ⟨_,hTO,fun v q => by have q' : Data.seq _ _ = Data.cell v := q; cases q'⟩
  ·exact S1.ito h1
  ·exact S2.ito h2
 keep := fun i h h' st kk => by
  obtain ⟨hz,hTI,⟨a,b',hTO⟩,h1,h2⟩ := st
  exact ⟨kk z (by simp) _ hz,kk TI (by simp) _ hTI,⟨a,b',kk TO (by simp) _ hTO⟩,S1.itk h1 fun o q => kk i1 (by simp) o q,S2.itk h2 fun o q => kk i2 (by simp) o q⟩
 item := by
  intro X hP hw hK hc i pins s σ H E I hf st hg
  subst hP hw
  obtain ⟨xs,ys,x,y,hq1,hq2,hx,hy⟩ := hg
  obtain ⟨its1,rv1,is1,hz1⟩ := S1.get hK I hq1
  obtain ⟨its2,rv2,is2,hz2⟩ := S2.get hK I hq2
  obtain ⟨u1,hu1,ru1⟩ := rv1.get hx
  obtain ⟨u2,hu2,ru2⟩ := rv2.get hy
  obtain ⟨hz,hTI,⟨a,b',hTO⟩,h1,h2⟩ := st
  have hh := I.ok.hd hc
  have hT : s.TypeIs (.ref z) "zip" := ⟨_,hz,rfl⟩
  unfold pyNext
  refine wpAny_bind (wpAny_attempt (wpAny_callSpecial?_slot (name := Str.ofString "__next__") hT F.slot_zip_next (wpAny_call_entry F.slot_zip_next hT F.entry_zip_next
   (M9 S1 S2 (x1 := u1) (x2 := u2) hh D ⟨_,_,hz,.inl rfl,.inl rfl⟩ hTI hTO ⟨h1,is1⟩ ⟨h2,is2⟩ (by simpa using hu1) (by simpa using hu2) fun h' tk _ az a2 a3 a4 a5 a6 hk => wpAny_pure ⟨_,rfl,?_⟩) (F.args_zip_next_1 _))))
  obtain ⟨b1,b2,a2⟩ := a2
  refine wpAny_letOwnedTupleGo_zip (az (.inr hz)) fun h'' z1 sb => ?_
  have kk : ∀ b o,b ∉ [z,TI,TO,i1,i2] -> s.heap.get? b = some o -> h''.get? b = some o := fun b o hb q => sb.extBut b o (fun e => hb (by simp [e])) (hk b o (fun e => hb (by simp [e])) (fun e => hb (by simp [e])) (fun e => hb (by simp [e])) (fun e => hb (by simp [e])) q)
  have zl : z < s.heap.objs.size := Heap.lt_size hz
  have ht : IsTup h'' s.heap.objs.size [u1,u2].toArray := ⟨_,sb.extBut _ _ (Nat.ne_of_gt zl) a5,rfl,_,rfl⟩
  exact ⟨.ref s.heap.objs.size,upd H s.heap.objs.size (.tup [x,y]),I.yielded (tk := tk) (fun b hb => hf b hb) kk (Nat.le_refl _) ht (.cons ru1 (.cons ru2 .nil)) (by show 2 <= sizeLine; decide),rfl,
   ⟨_, rfl, I.hok.fresh (Nat.le_refl _), fun xs' ys' x' y' e1 e2 e3 e4 => by
    rw [S1.inj hK I e1 hq1,hx] at e3; rw [S2.inj hK I e2 hq2,hy] at e4; cases e3; cases e4; rfl⟩,
   ⟨z1, sb.extBut _ _ D.TI_z (hk _ _ D.TI_z D.TO_TI.symm D.i1_TI.symm D.i2_TI.symm hTI), ⟨_, _, sb.extBut _ _ D.TO_z a2⟩, S1.itk a3.1 fun o q => sb.extBut _ o D.i1_z q, S2.itk a4.1 fun o q => sb.extBut _ o D.i2_z q⟩, fun b hb => by
    have hbt : b < s.heap.objs.size := by
     simp only [List.mem_cons,List.not_mem_nil,or_false] at hb
     rcases hb with e | e | e | e | e <;> rw [e]
     ·exact zl
     ·exact Heap.lt_size hTI
     ·exact Heap.lt_size hTO
     ·obtain ⟨o,q,_⟩ := S1.ito h1; exact Heap.lt_size q
     ·obtain ⟨o,q,_⟩ := S2.ito h2; exact Heap.lt_size q
    rw [Au (Nat.ne_of_lt hbt)]; exact (hf b hb).1⟩
 done := by
  intro X hP hw hK hc i pins s σ H E I hf st hg
  subst hP hw
  obtain ⟨xs,ys,hq1,hq2,hend⟩ := hg
  obtain ⟨its1,rv1,is1,hz1⟩ := S1.get hK I hq1
  obtain ⟨its2,rv2,is2,hz2⟩ := S2.get hK I hq2
  obtain ⟨hz,hTI,⟨a,b',hTO⟩,h1,h2⟩ := st
  have hh := I.ok.hd hc
  have hT : s.TypeIs (.ref z) "zip" := ⟨_,hz,rfl⟩
  have e1 := rv1.length
  have e2 := rv2.length
  unfold pyNext
  refine wpAny_bind (wpAny_attempt (wpAny_callSpecial?_slot (name := Str.ofString "__next__") hT F.slot_zip_next (wpAny_call_entry F.slot_zip_next hT F.entry_zip_next
   (Na S1 S2 hh D ⟨_,_,hz,.inl rfl,.inl rfl⟩ hTI hTO ⟨h1,is1⟩ ⟨h2,is2⟩ (by simp; omega) fun h' tk e hk he => ?_) (F.args_zip_next_1 _))))
  obtain ⟨o,ho,hco⟩ := he
  refine wpAny_bind (wpAny_isInstance (T := "StopIteration") (b := true) ⟨o,ho,hco⟩ isSubtype_stop ?_)
  exact wpAny_pure ⟨rfl,I.ended (wr := [z,TI,TO,i1,i2]) (tk := tk) (fun b hb => hf b hb) fun b o hb q => hk b o (fun e => hb (by simp [e])) (fun e => hb (by simp [e])) (fun e => hb (by simp [e])) (fun e => hb (by simp [e])) q⟩
 self := fun _ _ _ _ _ st h => wpAny_pyIter_zip st.1 h
def EJ {P : Program} {w : World} {K : PySem.W.Frag} (S1 S2 : Ba P w K) (ta : TA) : TI := fun σ H R => ta σ H fun vs H1 => ∃ a b,vs = [.ref a,.ref b] /\ (∃ xs,S1.Sq H1 a xs) /\ (∃ ys,S2.Sq H1 b ys) /\ R (DH S1 S2 a b) H1
theorem Jx {es : List Expr} {pos : Pos} (S1 S2 : Ba X.prog X.w X.K) (zn : FI S1 S2) (hg : Gl X "zip") (hm : X.mg "zip" = none) (ha : PA X [e1,e2] ta)
  (hs : starEach [e1,e2] X.env = [(false,eval e1 X.env),(false,eval e2 X.env)]) (hs2 : starEach [e2] X.env = [(false,eval e2 X.env)]) : PI X (.Tuple es k pos') (.Call (.Name "zip" p) [e1,e2] [] pos) (EJ S1 S2 ta) := by
 intro pins s σ H R I h
 refine Ao (Nb S1 S2 zn (R := fun l1 l2 H1 => R (DH S1 S2 l1 l2) H1) hg hm ha hs hs2 I h) fun v s1 ⟨l1,l2,H1,m,e,q,I1,gz,gI,gO,g1,g2,h1,h2,fr,_⟩ => ?_
 subst e
 exact wpAny_pyIter_zip gz ⟨_,[m + 4,m + 2,m + 3,m,m + 1],_,_,H1,rfl,I1,Ng S1 S2 _ _ _ _ _ l1 l2 (Nf h1 h2),⟨gz,gI,⟨_,_,gO⟩,g1,g2⟩,fun b hb => fr b (by
  simp only [List.mem_cons,List.not_mem_nil,or_false] at hb
  rcases hb with e | e | e | e | e <;> rw [e] <;> first | exact Nat.le_refl _ | exact Nat.le_add_right _ _),q⟩
theorem Nh {es : List Expr} {pos : Pos} (hg : Gl X "zip") (hm : X.mg "zip" = none) (ha : PA X [e1,e2] ta)
  (hs : starEach [e1,e2] X.env = [(false,eval e1 X.env),(false,eval e2 X.env)] := by rfl) (hs2 : starEach [e2] X.env = [(false,eval e2 X.env)] := by rfl) : PI X (.Tuple es k pos') (.Call (.Name "zip" p) [e1,e2] [] pos) (EJ (Cj X.prog X.w X.K) (Hv X.prog X.w X.K) ta) := Jx _ _ (Nc _ _ _) hg hm ha hs hs2
theorem Ni {es : List Expr} {pos : Pos} (hg : Gl X "zip") (hm : X.mg "zip" = none) (ha : PA X [e1,e2] ta)
  (hs : starEach [e1,e2] X.env = [(false,eval e1 X.env),(false,eval e2 X.env)] := by rfl) (hs2 : starEach [e2] X.env = [(false,eval e2 X.env)] := by rfl) : PI X (.Tuple es k pos') (.Call (.Name "zip" p) [e1,e2] [] pos) (EJ (Cj X.prog X.w X.K) (Cj X.prog X.w X.K) ta) := Jx _ _ (Nd _ _ _) hg hm ha hs hs2
end L2
end
section
namespace L2
open PySem PySem.Spec PyProof.Rows
variable {C : Int -> Int -> Prop} {g : Int -> Int -> V} {y : V} {H : Hp} {Q : VK} {op op' : CmpOp} {r' : R2} {n : Nat} {ps : List Str} {sp : Sp}
section
variable {X : Cx} {e a b c : Expr} {es rest : List Expr} {ta tb tc te : TE} {pos p : Pos} {tA tB' : TT} {t u : TS}
theorem PE.weak {t t' : TE} (h : PE X e t) (w : ∀ σ H Q,t' σ H Q -> t σ H Q) : PE X e t' := fun pins s σ H Q I q => h pins s σ H Q I (w σ H Q q)
def EK (i : Nat) : TE := fun σ H Q => match σ[i]? with | some (some v) => Q v H | _ => False
theorem cv (i : Nat) {x : Str} {pos : Pos} (hN : X.N[i]? = some x := by rfl) (hv : DU X.env.scope x := by first | exact Or.inl rfl | exact Or.inr (Or.inl rfl) | exact Or.inr (Or.inr rfl)) (hd : (x == ("__debug__" : Str)) = false := by decide)
  (hcd : (x == ("__classdict__" : Str)) = false := by decide) : PE X (.Name x pos) (EK i) := (Iv hN hv hd hcd).weak fun σ H Q q => by
 unfold EK at q
 split at q
 ·exact ⟨_,by assumption,q⟩
 ·exact q.elim
end
section
variable {X : Cx} {e a b c : Expr} {es rest : List Expr} {ta tb tc te : TE} {pos p : Pos}
theorem Nj {x : V} (h : match x,y with | .int i,.int j => C i j /\ Q (g i j) H | _,_ => False) : rI C g x y H Q := by
 split at h
 ·exact ⟨_,_,rfl,rfl,h⟩
 ·exact h.elim
theorem Nk {x : V} (h : match x,y with | .int i,.int j => Q (g i j) H | _,_ => False) : CF g x y H Q := by
 split at h
 ·exact ⟨_,_,rfl,rfl,h⟩
 ·exact h.elim
def mI (C : Int -> Int -> Prop) (g : Int -> Int -> V) : R2 := fun x y H Q => match x,y with | .int i,.int j => C i j /\ Q (g i j) H | _,_ => False
def mI0 (g : Int -> Int -> V) : R2 := fun x y H Q => match x,y with | .int i,.int j => Q (g i j) H | _,_ => False
theorem OpR.mI {f : Value -> Value -> Sem Value} (h : OpR X f (rI C g)) : OpR X f (L2.mI C g) := fun pins s σ H x y v u Q I rx ry q => h pins s σ H x y v u Q I rx ry (Nj q)
theorem OpR.mI0 {f : Value -> Value -> Sem Value} (h : OpR X f (CF g)) : OpR X f (L2.mI0 g) := fun pins s σ H x y v u Q I rx ry q => h pins s σ H x y v u Q I rx ry (Nk q)
theorem AV : OpR X (binaryOp .Add) (mI0 fun i j => .int (i + j)) := op_add.mI0
theorem AY : OpR X (binaryOp .Sub) (mI0 fun i j => .int (i - j)) := op_sub.mI0
theorem CL : OpR X (binaryOp .Mult) (mI CMul fun i j => .int (i * j)) := op_mul.mI
theorem FJ : OpR X (binaryOp .FloorDiv) (mI Ha fun i j => .int (i / j)) := op_fdiv.mI
theorem D6 : OpR X (binaryOp .Mod) (mI (fun _ j => 0 < j) fun i j => .int (i % j)) := op_mod.mI
theorem Nl : OpR X (binaryOp .Pow) (mI IL fun i j => .int (i ^ j.toNat)) := op_pow.mI
theorem Cz : OpR X (compareOp .Lt) (mI0 fun i j => .bl (decide (i < j))) := op_lt.mI0
theorem Dl : OpR X (compareOp .LtE) (mI0 fun i j => .bl (decide (i <= j))) := op_le.mI0
theorem FK : OpR X (compareOp .Gt) (mI0 fun i j => .bl (decide (j < i))) := op_gt.mI0
theorem Jy : OpR X (compareOp .GtE) (mI0 fun i j => .bl (decide (j <= i))) := op_ge.mI0
def mB (x : V) (Q : Bool -> Prop) : Prop := match x with | .bl c => Q c | _ => False
end
structure Mono (t : TE) : Prop where
 m : ∀ {σ H} {Q Q' : VK},t σ H Q -> (∀ v H',Q v H' -> Q' v H') -> t σ H Q'
section
variable {X : Cx} {e a b c : Expr} {es rest : List Expr} {te : TE} {pos p : Pos}
def cB (t : TE) : TT := fun σ H Q => t σ H fun x H1 => match x with | .bl c => Q c H1 | _ => False
theorem BA {t : TE} (h : PE X e t) (he : ∀ whole,isTrue e X.env whole = (do let v <- whole; standAt e.pos; holding [v] (truthy v)) := by intro _; rfl) : PT X e (cB t) := by
 intro pins s σ H Q I hw
 refine isTrue_plain (Ao (h pins s σ H _ I hw) fun v s1 ⟨x,H1,I1,r1,q1⟩ => ?_) (he _)
 dsimp only at q1
 split at q1
 ·cases r1; exact wpAny_truthy_bool ⟨H1,I1,q1⟩
 ·exact q1.elim
theorem AN {r : R2} {ta tb : TE} (ho : OpR X (compareOp op) r) (ha : PE X a ta) (hb : PE X b tb) (hm : behindInMarks op b = false) : PT X (.Compare a [op] [b] pos) (cB (Fi r ta tb)) := by
 intro pins s σ H Q I h
 refine wpAny_isTrue_Compare1 (Ao (ha pins s σ H _ I h) fun v s1 ⟨x,H1,I1,r1,q1⟩ => Ao (hb pins s1 σ H1 _ I1 q1) fun u s2 ⟨y,H2,I2,r2,q2⟩ =>
  Ao (ho pins s2 σ H2 x y v u _ I2 r1 r2 q2) fun c s3 ⟨z,H3,I3,r3,q3⟩ => ?_) hm
 dsimp only at q3
 split at q3
 ·cases r3; exact wpAny_truthy_bool ⟨H3,I3,q3⟩
 ·exact q3.elim
def Jz (r r' : R2) (ta tb tc : TE) : TE := fun σ H Q => ta σ H fun x H1 => tb σ H1 fun y H2 => r x y H2 fun z H3 => match z with | .bl k => br k (tc σ H3 fun w' H4 => r' y w' H4 Q) (Q (.bl false) H3) | _ => False
theorem JA {r : R2} {ta tb tc : TE} (ho : OpR X (compareOp op) r) (ho' : OpR X (compareOp op') r') (ha : PE X a ta) (hb : PE X b tb) (hc : PE X c tc)
  (hm : lastMarks [op,op'] [b,c] = false := by with_unfolding_all rfl) : PE X (.Compare a [op,op'] [b,c] pos) (Jz r r' ta tb tc) := by
 intro pins s σ H Q I h
 refine Compare_chain (Ao (ha pins s σ H _ I h) fun v s1 ⟨x,H1,I1,r1,q1⟩ => chain_link (Ao (hb pins s1 σ H1 _ I1 q1) fun u s2 ⟨y,H2,I2,r2,q2⟩ =>
  Ao (ho pins s2 σ H2 x y v u _ I2 r1 r2 q2) fun d s3 ⟨z,H3,I3,r3,q3⟩ => ?_)) hm
 dsimp only at q3
 split at q3
 ·rename_i k
  cases r3
  refine wpAny_truthy_bool ?_
  cases k with
  | false => exact ite_ff ⟨.bl false,H3,I3,rfl,q3.2 rfl⟩
  | true => exact ite_tt (chain_last (Ao (hc pins s3 σ H3 _ I3 (q3.1 rfl)) fun w' s4 ⟨z',H4,I4,r4,q4⟩ => ho' pins s4 σ H4 y z' u w' Q I4 r2 r4 q4))
 ·exact q3.elim
theorem Nm {r : R2} {ta tb tc : TE} (ho : OpR X (compareOp op) r) (ho' : OpR X (compareOp op') r') (ha : PE X a ta) (hb : PE X b tb) (hc : PE X c tc)
  (hm : lastMarks [op,op'] [b,c] = false := by with_unfolding_all rfl) : PT X (.Compare a [op,op'] [b,c] pos) (cB (Jz r r' ta tb tc)) := by
 intro pins s σ H Q I h
 refine isTrue_chain (Ao (ha pins s σ H _ I h) fun v s1 ⟨x,H1,I1,r1,q1⟩ => test_link (Ao (hb pins s1 σ H1 _ I1 q1) fun u s2 ⟨y,H2,I2,r2,q2⟩ =>
  Ao (ho pins s2 σ H2 x y v u _ I2 r1 r2 q2) fun d s3 ⟨z,H3,I3,r3,q3⟩ => ?_)) hm
 dsimp only at q3
 split at q3
 ·rename_i k
  cases r3
  refine wpAny_truthy_bool ?_
  cases k with
  | false => exact ite_ff ⟨H3,I3,q3.2 rfl⟩
  | true =>
   refine ite_tt (test_last (Ao (hc pins s3 σ H3 _ I3 (q3.1 rfl)) fun w' s4 ⟨z',H4,I4,r4,q4⟩ => Ao (ho' pins s4 σ H4 y z' u w' _ I4 r2 r4 q4) fun d' s5 ⟨z2,H5,I5,r5,q5⟩ => ?_))
   dsimp only at q5
   split at q5
   ·cases r5; exact wpAny_truthy_bool ⟨H5,I5,q5⟩
   ·exact q5.elim
 ·exact q3.elim
def Nn (t u : TT) : TT := fun σ H Q => t σ H fun c H1 => br c (u σ H1 Q) (Q false H1)
def No (t u : TT) : TT := fun σ H Q => t σ H fun c H1 => br c (Q true H1) (u σ H1 Q)
theorem DI {tA tB' : TT} (ha : PT X a tA) (hb : PW X (.BoolOp .And (b :: rest) pos) tB') : PW X (.BoolOp .And (a :: b :: rest) pos) (Nn tA tB') := by
 intro wh pins s σ H Q I h
 refine isTrue_and (Ao (ha pins s σ H _ I h) fun c s1 ⟨H1,I1,q1⟩ => ?_)
 cases c with
 | true => exact hb wh pins s1 σ H1 Q I1 (q1.1 rfl)
 | false => exact ⟨H1,I1,q1.2 rfl⟩
theorem EL {tA tB' : TT} (ha : PT X a tA) (hb : PW X (.BoolOp .Or (b :: rest) pos) tB') : PW X (.BoolOp .Or (a :: b :: rest) pos) (No tA tB') := by
 intro wh pins s σ H Q I h
 refine isTrue_or (Ao (ha pins s σ H _ I h) fun c s1 ⟨H1,I1,q1⟩ => ?_)
 cases c with
 | true => exact ⟨H1,I1,q1.1 rfl⟩
 | false => exact hb wh pins s1 σ H1 Q I1 (q1.2 rfl)
def Np (ta tb : TE) : TE := fun σ H Q => ta σ H fun x H1 => match x with | .bl c => br c (tb σ H1 Q) (Q (.bl false) H1) | _ => False
def Nq (ta : TE) : TE := fun σ H Q => ta σ H fun x H1 => match x with | .bl c => Q (.bl (!c)) H1 | _ => False
theorem Bf {ta tb : TE} (ha : PE X a ta) (hb : PE X (.BoolOp .And (b :: rest) pos) tb) : PE X (.BoolOp .And (a :: b :: rest) pos) (Np ta tb) := by
 intro pins s σ H Q I h
 refine BoolOp_and (Ao (ha pins s σ H _ I h) fun v s1 ⟨x,H1,I1,r1,q1⟩ => ?_)
 dsimp only at q1
 split at q1
 ·rename_i c
  cases r1
  refine wpAny_truthy_bool ?_
  cases c with
  | true => exact hb pins s1 σ H1 Q I1 (q1.1 rfl)
  | false => exact ⟨.bl false,H1,I1,rfl,q1.2 rfl⟩
 ·exact q1.elim
theorem Nr {ta : TE} (ha : PE X a ta) : PE X (.UnaryOp .Not a pos) (Nq ta) := by
 intro pins s σ H Q I h
 refine UnaryOp_ (Ao (ha pins s σ H _ I h) fun v s1 ⟨x,H1,I1,r1,q1⟩ => ?_)
 dsimp only at q1
 split at q1
 ·rename_i c
  cases r1
  exact not_of (wpAny_truthy_bool ⟨.bl (!c),H1,I1,rfl,q1⟩)
 ·exact q1.elim
def Nt (t : TT) (ta tb : TE) : TE := fun σ H Q => t σ H fun c H1 => br c (ta σ H1 Q) (tb σ H1 Q)
theorem EM {ta tb : TE} {tA : TT} (hc : PT X c tA) (ha : PE X a ta) (hb : PE X b tb) : PE X (.IfExp c a b pos) (Nt tA ta tb) := by
 intro pins s σ H Q I h
 refine wpAny_IfExp (Ao (hc pins s σ H _ I h) fun d s1 ⟨H1,I1,q1⟩ => ?_)
 cases d with
 | true => exact ha pins s1 σ H1 Q I1 (q1.1 rfl)
 | false => exact hb pins s1 σ H1 Q I1 (q1.2 rfl)
def Nu (c : TT) (t u : TS) : TS := fun D σ H => c σ H fun b H1 => br b (t D σ H1) (u D σ H1)
theorem AU {sa sb : List Stmt} {tc : TT} {t u : TS} (hc : PT X c tc) (ha : PSs X sa t) (hb : PSs X sb u) : PS X (.If c sa sb pos) (Nu tc t u) := by
 intro pins s σ H D I h
 refine wpAny_If (Ao (hc pins s σ H _ I h) fun d s1 ⟨H1,I1,q1⟩ => ?_)
 cases d with
 | true => exact ha pins s1 σ H1 D I1 (q1.1 rfl)
 | false => exact hb pins s1 σ H1 D I1 (q1.2 rfl)
end
section
variable {X : Cx} {es : List Expr} {t : TA} {pos : Pos}
theorem Dm (h : Nat.ble n 64 = true) : n <= sizeLine := Nat.le_trans (Nat.le_of_ble_eq_true h) (by decide)
def Nv (t : TA) : TE := fun σ H Q => t σ H fun xs H1 => match Nat.ble xs.length 64 with | true => ∀ p,H1 p = none -> Q (.ref p) (upd H1 p (.tup xs)) | false => False
def Nw (t : TA) : TE := fun σ H Q => t σ H fun xs H1 => match Nat.ble xs.length 64 with | true => ∀ p,H1 p = none -> Q (.ref p) (upd H1 p (.lst xs)) | false => False
theorem AZ {x1} (h : PA X es t) : PE X (.Tuple es x1 pos) (Nv t) := by
 intro pins s σ H Q I hq
 refine wpAny_Tuple_spliced (Ao (h pos pins s σ H _ I hq) fun us s1 ⟨xs,H1,I1,r,q⟩ => ?_)
 dsimp only at q
 split at q
 ·rename_i z
  refine ⟨by rw [<- r.length]; exact Dm z,?_⟩
  have hf : H1 s1.heap.objs.size = none := I1.hok.fresh (Nat.le_refl _)
  refine ⟨.ref s1.heap.objs.size,upd H1 s1.heap.objs.size (.tup xs),I1.laid (t' := s1.toks) (fun b u e => Heap.get?_push_of_some _ e) (Nat.le_refl _) ?_,rfl,q _ hf⟩
  exact ⟨Dm z,us,r,⟨_,Heap.get?_push_size _ rfl,rfl,_,rfl⟩⟩
 ·exact q.elim
theorem BB (h : PA X es t) : PE X (.List es pos) (Nw t) := by
 intro pins s σ H Q I hq
 refine wpAny_List_spliced (Ao (h pos pins s σ H _ I hq) fun us s1 ⟨xs,H1,I1,r,q⟩ => ?_)
 dsimp only at q
 split at q
 ·rename_i z
  refine ⟨by rw [<- r.length]; exact Dm z,?_⟩
  have hf : H1 s1.heap.objs.size = none := I1.hok.fresh (Nat.le_refl _)
  refine ⟨.ref s1.heap.objs.size,upd H1 s1.heap.objs.size (.lst xs),I1.laid (t' := s1.toks) (fun b u e => Heap.get?_push_of_some _ e) (Nat.le_refl _) ?_,rfl,q _ hf⟩
  exact ⟨Dm z,us,0,r,Heap.get?_push_size _ rfl⟩
 ·exact q.elim
end
section
variable {P : Program} {w : World} {K : PySem.W.Frag} {mg : Str -> Option Value} {base : Heap}
structure Fn (P : Program) (w : World) (K : PySem.W.Frag) (mg : Str -> Option Value) (base : Heap) (n : Nat) (x : Str) (ps : List Str) (sp : Sp) : Prop where
 ex : ∃ (f : Addr) (fd : FuncData),Cy P w K mg base CX0 n f fd ps sp /\ mg x = some (.ref f) /\ PySem.W.keepIn K (.ref f) = true /\ Binds K fd ps []
structure Df (K : PySem.W.Frag) (mg : Str -> Option Value) (x : Str) (st : Stmt) (ps : List Str) : Prop where
 ex : ∃ (f : Addr) (fd : FuncData),DC K x x st f fd /\ mg x = some (.ref f) /\ Binds K fd ps []
theorem Df.fn {x : Str} {st : Stmt} {N : List Str} {k : Nat} (F : Df K mg x st ps) (S : Av N ps (Ar st)) (len : ∀ vs H Q E,sp vs H Q E -> vs.length = ps.length)
  (hbody : ∀ (f : Addr) (cdv : Value) (A : Around) (outer : List Env) (s : Shared) (H : Hp) (vs : List V) (Q : VK) (E : XK), Be k (A.deeper (envOfC x (Ar st) s.heap.objs.size f cdv)) -> sp vs H Q E ->
   ∃ t,PSs (DB CX0 P w K mg base N x (Ar st) f cdv A outer s H E).nox (BI st) t /\ t { nx := fun _ H' => Q .non H',rt := Q } (start N vs) H) : Fn P w K mg base (k + 1) x ps sp := by
 obtain ⟨f,fd,hF,hm,hb⟩ := F.ex
 exact ⟨f,fd,hF.ok S len fun cdv A outer s H vs Q E hr h => hbody f cdv A outer s H vs Q E hr h,hm,hF.kp,hb⟩
def Nx (sp : Sp) (t : TA) : TE := fun σ H Q => t σ H fun vs H1 => sp vs H1 Q E0
theorem Ai {X : Cx} {x : Str} {e : Expr} {es : List Expr} {t : TA} {p pos : Pos} (F : Fn X.prog X.w X.K X.mg X.base n x ps sp) (hr : Be n X.A) (hg : Gl X x) (ha : PA X (e :: es) t)
  (hdb : (x == ("__debug__" : Str)) = false := by decide) (he : starEach (e :: es) X.env = (false,eval e X.env) :: starEach es X.env := by rfl) (hpl : (backTo pos (starEach es X.env)).any (·.1) = false := by rfl) :
  PE X (.Call (.Name x p) (e :: es) [] pos) (Nx sp t) := by
 obtain ⟨f,fd,F,hm,hk,hb⟩ := F.ex
 refine (Md (dvs := []) (E := E0) F hr hg hm hk hb .nil MR ha hdb he hpl).weak fun σ H Q q => ?_
 have e : ∀ vs : List V,vs ++ [] = vs := fun vs => List.append_nil vs
 show t σ H fun vs H1 => sp (vs ++ []) H1 Q E0
 simp only [e]
 exact q
end
end L2
end
section
namespace L2
open PySem PySem.Spec PyProof.Rows
variable {p : Addr} {H H' : Hp} {xs : List V}
def DK (kvs : List (PyData × PyData)) (ks : List (AO × V)) : Prop := (kvs = [] /\ ks = []) \/ (kvs = [(.int 0,.int 1)] /\ ks = [(.inl 0,.int 1)])
mutual
def Aa (p : Addr) (H : Hp) : PyData -> V -> Prop
 | .none,v => v = .non
 | .bool b,v => v = .bl b
 | .int i,v => v = .int i
 | .str x,v => v = .str x
 | .tuple ds,v => ∃ a xs,v = .ref a /\ H a = some (.tup xs) /\ Ad p H ds xs
 | .list ds,v => ∃ a xs,v = .ref a /\ a ≠ p /\ H a = some (.lst xs) /\ Ad p H ds xs
 | .dict kvs,v => ∃ a ks,v = .ref a /\ a ≠ p /\ DK kvs ks /\ H a = some (.dK ks)
def Ad (p : Addr) (H : Hp) : List PyData -> List V -> Prop
 | [],xs => xs = []
 | d :: ds,xs => ∃ x r,xs = x :: r /\ Aa p H d x /\ Ad p H ds r
end
def Ev (p : Addr) (H H' : Hp) : Prop := ∀ b o,H b = some o -> (b = p /\ ∃ xs,o = .lst xs) \/ H' b = some o
theorem Ev.refl : Ev p H H := fun _ _ h => .inr h
theorem Ev.same (h : Ab H H') : Ev p H H' := fun b o q => .inr (h b o q)
theorem Ev.trans {H1 H2 : Hp} (h : Ev p H H1) (h' : Ev p H1 H2) : Ev p H H2 := fun b o q => (h b o q).elim .inl fun r => h' b o r
theorem Ev.tup {a : Addr} (h : Ev p H H') (q : H a = some (.tup xs)) : H' a = some (.tup xs) := (h a _ q).elim (fun ⟨_,ys,e⟩ => nomatch e) id
theorem Ev.lst {a : Addr} (h : Ev p H H') (q : H a = some (.lst xs)) (n : a ≠ p) : H' a = some (.lst xs) := (h a _ q).elim (fun ⟨e,_⟩ => absurd e n) id
theorem Ev.dk {a : Addr} {ks : List (AO × V)} (h : Ev p H H') (q : H a = some (.dK ks)) : H' a = some (.dK ks) := (h a _ q).elim (fun ⟨_,ys,e⟩ => nomatch e) id
theorem Ev.new {a : Addr} {o : HO} (h : H a = none) : Ev p H (upd H a o) := fun b u q => .inr (by rw [Au (A6 q h)]; exact q)
theorem Ev.pen {o : HO} (h : H p = some (.lst xs)) : Ev p H (upd H p o) := fun b u q => by
 by_cases e : b = p
 ·subst e; rw [h] at q; cases q; exact .inl ⟨rfl,xs,rfl⟩
 ·exact .inr (by rw [Au e]; exact q)
theorem Ab.new {a : Addr} {o : HO} (h : H a = none) : Ab H (upd H a o) := fun b u q => by rw [Au (A6 q h)]; exact q
mutual
theorem Aa.ev (h : Ev p H H') : ∀ (d : PyData) (v : V),Aa p H d v -> Aa p H' d v
 | .none,v,q => q
 | .bool _,v,q => q
 | .int _,v,q => q
 | .str _,v,q => q
 | .tuple ds,v,q => by
  unfold Aa at q ⊢
  obtain ⟨a,xs,e,r,z⟩ := q
  exact ⟨a,xs,e,h.tup r,Ad.ev h ds xs z⟩
 | .list ds,v,q => by
  unfold Aa at q ⊢
  obtain ⟨a,xs,e,n,r,z⟩ := q
  exact ⟨a,xs,e,n,h.lst r n,Ad.ev h ds xs z⟩
 | .dict kvs,v,q => by
  unfold Aa at q ⊢
  obtain ⟨a,ks,e,n,k,r⟩ := q
  exact ⟨a,ks,e,n,k,h.dk r⟩
theorem Ad.ev (h : Ev p H H') : ∀ (ds : List PyData) (xs : List V),Ad p H ds xs -> Ad p H' ds xs
 | [],xs,q => by unfold Ad at q ⊢; exact q
 | d :: ds,xs,q => by
  unfold Ad at q ⊢
  obtain ⟨x,r,e,z,zs⟩ := q
  exact ⟨x,r,e,Aa.ev h d x z,Ad.ev h ds r zs⟩
end
theorem Ad.len : ∀ {ds : List PyData} {xs : List V},Ad p H ds xs -> ds.length = xs.length
 | [],xs,q => by unfold Ad at q; subst q; rfl
 | d :: ds,xs,q => by
  unfold Ad at q
  obtain ⟨x,r,e,z,zs⟩ := q
  subst e
  simp [Ad.len zs]
theorem Ad.get {p : Addr} {H : Hp} : ∀ {ds : List PyData} {xs : List V} {i : Nat} {d : PyData},Ad p H ds xs -> ds[i]? = some d -> ∃ x,xs[i]? = some x /\ Aa p H d x
 | [],xs,i,d,q,e => by simp at e
 | d :: ds,xs,0,d',q,e => by
  unfold Ad at q
  obtain ⟨x,r,rfl,z,zs⟩ := q
  simp at e; subst e
  exact ⟨x,rfl,z⟩
 | d :: ds,xs,i + 1,d',q,e => by
  unfold Ad at q
  obtain ⟨x,r,rfl,z,zs⟩ := q
  obtain ⟨y,hy,ry⟩ := Ad.get (i := i) zs (by simpa using e)
  exact ⟨y,by simpa using hy,ry⟩
theorem Ad.got {p : Addr} {H : Hp} : ∀ {ds : List PyData} {xs : List V} {i : Nat} {x : V},Ad p H ds xs -> xs[i]? = some x -> ∃ d,ds[i]? = some d /\ Aa p H d x
 | [],xs,i,x,q,e => by unfold Ad at q; subst q; simp at e
 | d :: ds,xs,0,x',q,e => by
  unfold Ad at q
  obtain ⟨x,r,rfl,z,zs⟩ := q
  simp at e; subst e
  exact ⟨d,rfl,z⟩
 | d :: ds,xs,i + 1,x',q,e => by
  unfold Ad at q
  obtain ⟨x,r,rfl,z,zs⟩ := q
  obtain ⟨y,hy,ry⟩ := Ad.got (i := i) zs (by simpa using e)
  exact ⟨y,by simpa using hy,ry⟩
theorem Ad.nil : Ad p H [] [] := by unfold Ad; rfl
theorem Ad.cons {d : PyData} {ds : List PyData} {x : V} (h : Aa p H d x) (r : Ad p H ds xs) : Ad p H (d :: ds) (x :: xs) := by unfold Ad; exact ⟨x,xs,rfl,h,r⟩
theorem Ad.append : ∀ {ds es : List PyData} {xs ys : List V},Ad p H ds xs -> Ad p H es ys -> Ad p H (ds ++ es) (xs ++ ys)
 | [],_,xs,_,q,r => by unfold Ad at q; subst q; exact r
 | d :: ds,_,xs,_,q,r => by
  unfold Ad at q
  obtain ⟨x,t,rfl,z,zs⟩ := q
  exact .cons z (Ad.append zs r)
theorem Aa.tup {a : Addr} {ds : List PyData} (h : H a = some (.tup xs)) (r : Ad p H ds xs) : Aa p H (.tuple ds) (.ref a) := by unfold Aa; exact ⟨a,xs,rfl,h,r⟩
theorem Aa.int {i : Int} : Aa p H (.int i) (.int i) := by unfold Aa; rfl
theorem Aa.str {i : Str} : Aa p H (.str i) (.str i) := by unfold Aa; rfl
theorem Aa.non : Aa p H .none .non := by unfold Aa; rfl
def JB (x : V) (H : Hp) (n : String) : Prop := match x with
 | .non => n = "NoneType" | .bl _ => n = "bool" | .int _ => n = "int" | .str _ => n = "str"
 | .ref a => (n = "tuple" /\ ∃ xs,H a = some (.tup xs)) \/ (n = "list" /\ ∃ xs,H a = some (.lst xs)) \/ (n = "dict" /\ ∃ kvs,H a = some (.dK kvs))
 | _ => False
def Ny : PyData -> String
 | .none => "NoneType" | .bool _ => "bool" | .int _ => "int" | .str _ => "str" | .tuple _ => "tuple" | .list _ => "list" | .dict _ => "dict"
def Hw (n T : String) : Bool := n == T || (n == "bool" && T == "int")
theorem Aa.ty {v : V} : ∀ {d : PyData},Aa p H d v -> JB v H (Ny d)
 | .none,q => by unfold Aa at q; subst q; rfl
 | .bool _,q => by unfold Aa at q; subst q; rfl
 | .int _,q => by unfold Aa at q; subst q; rfl
 | .str _,q => by unfold Aa at q; subst q; rfl
 | .tuple ds,q => by unfold Aa at q; obtain ⟨a,xs,rfl,h,_⟩ := q; exact .inl ⟨rfl,xs,h⟩
 | .list ds,q => by unfold Aa at q; obtain ⟨a,xs,rfl,_,h,_⟩ := q; exact .inr (.inl ⟨rfl,xs,h⟩)
 | .dict kvs,q => by unfold Aa at q; obtain ⟨a,ks,rfl,_,_,h⟩ := q; exact .inr (.inr ⟨rfl,ks,h⟩)
def JC : List V -> Hp -> VK -> Prop := fun xs H Q => match xs with
 | [x,.ty T] => ∃ n,JB x H n /\ (T = "int" \/ T = "bool" \/ T = "tuple" \/ T = "list" \/ T = "str") /\ Q (.bl (Hw n T)) H
 | _ => False
section
variable {X : Cx}
theorem boot_int : bootBuiltins "int" = some (.type "int") := by decide +kernel
theorem boot_bool : bootBuiltins "bool" = some (.type "bool") := by decide +kernel
theorem BP : bootBuiltins "tuple" = some (.type "tuple") := by decide +kernel
theorem Nz : bootBuiltins "list" = some (.type "list") := by decide +kernel
theorem Hx : Bx X (.builtin "isinstance") JC := by
 intro pins s σ H xs us Q I r h
 unfold JC at h
 split at h
 ·rename_i x T
  obtain ⟨n,ht,hT,q⟩ := h
  obtain ⟨u,v,rfl,ru,rv⟩ := r.two
  cases rv
  have yes : ∀ s' : Shared,Ae X pins σ H s' -> Hw n T = true -> EP X pins σ Q (.bool true) s' := fun s' I' e => ⟨.bl true,H,I',rfl,by rw [e] at q; exact q⟩
  have no : Hw n T = false -> EP X pins σ Q (.bool false) { s with toks := s.toks + 1 } := fun e => ⟨.bl false,H,I.tok _,rfl,by rw [e] at q; exact q⟩
  cases x with
  | non =>
   have e : n = "NoneType" := ht
   subst e; cases ru
   rcases hT with rfl | rfl | rfl | rfl | rfl
   ·exact IsiPair.NoneType_int (no rfl)
   ·exact IsiPair.NoneType_bool (no rfl)
   ·exact IsiPair.NoneType_tuple (no rfl)
   ·exact IsiPair.NoneType_list (no rfl)
   ·exact IsiPair.NoneType_str (no rfl)
  | bl k =>
   have e : n = "bool" := ht
   subst e; cases ru
   rcases hT with rfl | rfl | rfl | rfl | rfl
   ·exact IsiPair.bool_int (yes _ I rfl)
   ·exact IsiPair.bool_bool (yes _ I rfl)
   ·exact IsiPair.bool_tuple (no rfl)
   ·exact IsiPair.bool_list (no rfl)
   ·exact IsiPair.bool_str (no rfl)
  | int k =>
   have e : n = "int" := ht
   subst e; obtain ⟨t,rfl⟩ := ru
   rcases hT with rfl | rfl | rfl | rfl | rfl
   ·exact IsiPair.int_int (yes _ I rfl)
   ·exact IsiPair.int_bool (no rfl)
   ·exact IsiPair.int_tuple (no rfl)
   ·exact IsiPair.int_list (no rfl)
   ·exact IsiPair.int_str (no rfl)
  | str k =>
   have e : n = "str" := ht
   subst e; obtain ⟨t,rfl⟩ := ru
   rcases hT with rfl | rfl | rfl | rfl | rfl
   ·exact IsiPair.str_int (no rfl)
   ·exact IsiPair.str_bool (no rfl)
   ·exact IsiPair.str_tuple (no rfl)
   ·exact IsiPair.str_list (no rfl)
   ·exact IsiPair.str_str (yes _ I rfl)
  | ref a =>
   cases ru
   have ht' : (n = "tuple" /\ ∃ xs,H a = some (.tup xs)) \/ (n = "list" /\ ∃ xs,H a = some (.lst xs)) \/ (n = "dict" /\ ∃ kvs,H a = some (.dK kvs)) := ht
   rcases ht' with ⟨e,xs,hx⟩ | ⟨e,xs,hx⟩ | ⟨e,xs,hx⟩
   ·subst e
    obtain ⟨_,its,_,o,ho,hc,_⟩ := I.hok a _ hx
    rcases hT with rfl | rfl | rfl | rfl | rfl
    ·exact IsiPair.tuple_int ho hc (no rfl)
    ·exact IsiPair.tuple_bool ho hc (no rfl)
    ·exact IsiPair.tuple_tuple ho hc (yes _ I rfl)
    ·exact IsiPair.tuple_list ho hc (no rfl)
    ·exact IsiPair.tuple_str ho hc (no rfl)
   ·subst e
    obtain ⟨_,its,k,_,ho⟩ := I.hok a _ hx
    rcases hT with rfl | rfl | rfl | rfl | rfl
    ·exact IsiPair.list_int ho rfl (no rfl)
    ·exact IsiPair.list_bool ho rfl (no rfl)
    ·exact IsiPair.list_tuple ho rfl (no rfl)
    ·exact IsiPair.list_list ho rfl (yes _ I rfl)
    ·exact IsiPair.list_str ho rfl (no rfl)
   ·subst e
    obtain ⟨_,_,vs,_,o,es,ep,ho,hc,_⟩ := I.hok a _ hx
    have hc' : o.cls = .type "dict" := hc.1
    rcases hT with rfl | rfl | rfl | rfl | rfl
    ·exact IsiPair.dict_int ho hc' (no rfl)
    ·exact IsiPair.dict_bool ho hc' (no rfl)
    ·exact IsiPair.dict_tuple ho hc' (no rfl)
    ·exact IsiPair.dict_list ho hc' (no rfl)
    ·exact IsiPair.dict_str ho hc' (no rfl)
  | byt _ => exact (show False from ht).elim
  | flt _ => exact (show False from ht).elim
  | ty _ => exact (show False from ht).elim
 ·exact h.elim
theorem Dn (hc : X.calm = true) : Bx X (.builtin "all") (fun xs H Q => ∃ (p : Addr) (bs : List Bool),xs = [.ref p] /\ H p = some (.lst (bs.map V.bl)) /\ Q (.bl (bs.all id)) H) := by
 intro pins s σ H xs us Q I r h
 obtain ⟨p,bs,rfl,hp,q⟩ := h
 obtain ⟨u,rfl,ru⟩ := r.one
 cases ru
 obtain ⟨its,rv,pl,hz⟩ := I.list (An.of hp)
 refine call_all_walk (wpAny_pyIter_list pl.isList ?_)
 obtain ⟨ol,_,hol,_⟩ := id pl
 have hlt := Heap.lt_size hol
 refine ⟨s.heap.objs.size,_,_,_,_,_,fun i => bs.getD i false,rfl,Walks.list (A := X.A.in1) (I.ok.hd hc) s.heap.objs.size p (Nat.ne_of_lt hlt) its.toArray,⟨⟨_,Heap.get?_push_size _ rfl,rfl,rfl⟩,?_⟩,fun i v s' Q' E' hi hq => ?_,fun h' tk hk => ?_⟩
 ·exact pl.isList.at fun o e => Heap.get?_push_of_some _ e
 ·have hi' : its[i]? = some v := by simpa using hi
  have hl := rv.length
  have hb : i < bs.length := by have := (List.getElem?_eq_some_iff.mp hi').1; simp at hl; omega
  obtain ⟨u,hu,ru⟩ := rv.get (i := i) (x := .bl bs[i]) (by simp [hb])
  rw [hi'] at hu; cases hu; cases ru
  dsimp only at hq; rw [List.getD_eq_getElem?_getD,List.getElem?_eq_getElem hb] at hq
  exact wpAny_truthy_bool hq
 ·have hl := rv.length
  simp at hl
  have e : (List.range its.toArray.size).all (fun i => bs.getD i false) = bs.all id := by
   rw [List.size_toArray,<- hl,Bool.eq_iff_iff]
   simp only [List.all_eq_true,List.mem_range,id]
   constructor
   ·intro h x hx
    obtain ⟨i,hi,e⟩ := List.mem_iff_getElem.mp hx
    have := h i hi
    rw [List.getD_eq_getElem?_getD,List.getElem?_eq_getElem hi] at this
    rw [<- e]; exact this
   ·intro h i hi
    rw [List.getD_eq_getElem?_getD,List.getElem?_eq_getElem hi]
    exact h _ (List.getElem_mem hi)
  rw [e]
  refine ⟨.bl (bs.all id),H,I.kept fun b o eb => hk b o ?_ (Heap.get?_push_of_some _ eb),rfl,q⟩
  intro z
  have z' : b = s.heap.objs.size := by simpa using z
  exact absurd (Heap.lt_size eb) (by rw [z']; exact Nat.lt_irrefl _)
end
end L2
end
section
namespace L2
open PySem PySem.Spec PyProof.Rows
open AutoSeq1 (wpAny_loadPart')
section
variable {X : Cx}
def D7 (H : Hp) (xs : List V) (Q : VK) : Prop := ∀ r H',Ab H H' -> H' r = some (.tup xs) -> Q (.ref r) H'
theorem Ae.gotNew {pins : List (Addr × Obj)} {σ : St} {H : Hp} {s : Shared} {Q : VK} {xs : List V} {us : List Value} {t' : Nat} (I : Ae X pins σ H s) (q : D7 H xs Q) (rv : At xs us) (hz : xs.length <= sizeLine) :
  EP X pins σ Q (.ref s.heap.objs.size) { s with heap := s.heap.push { cls := .type "tuple",data := .seq us.toArray },toks := t' } :=
 ⟨.ref s.heap.objs.size,_,I.laid (o := .tup xs) (fun b ob e => Heap.get?_push_of_some _ e) (Nat.le_refl _) ⟨hz,us,rv,IsTup.new _ _⟩,rfl,q _ _ (Ab.new (I.hok.fresh (Nat.le_refl _))) Ak⟩
def NA : R2 := fun x y H Q => ∃ a b xs ys,x = .ref a /\ y = .ref b /\ H a = some (.tup xs) /\ H b = some (.tup ys) /\ xs.length + ys.length <= 1000 /\ D7 H (xs ++ ys) Q
theorem DJ : OpR X (binaryOp .Add) NA := by
 intro pins s σ H x y v u Q I rx ry h
 obtain ⟨a,b,xs,ys,rfl,rfl,ha,hb,hz,q⟩ := h
 cases rx; cases ry
 obtain ⟨its,r1,ht,_⟩ := I.tuple (Ac.of ha)
 obtain ⟨its2,r2,ht2,_⟩ := I.tuple (Ac.of hb)
 obtain ⟨⟨cls,dd,data,sl⟩,ho,hc,n,hd⟩ := id ht; obtain ⟨⟨cls2,dd2,data2,sl2⟩,ho2,hc2,n2,hd2⟩ := id ht2; simp only at hc hd hc2 hd2; subst hc hd hc2 hd2
 have hl1 := r1.length; have hl2 := r2.length
 have hs : (1000 : Nat) <= sizeLine := by decide
 by_cases hv : its = []
 ·have e : xs = [] := by subst hv; cases r1; rfl
  refine concat_meets ⟨_,ho,rfl⟩ ⟨_,ho2,rfl⟩ noFill_tuple_add seq_tuple_add PySem.F.slot_tuple_add PySem.F.entry_tuple_add (PySem.F.args_tuple_add_2 _ _) (tuple_addW0 a b its.toArray its2.toArray n n2 dd dd2 sl sl2 (by simp [hv])) ⟨ho,ho2,?_⟩
  exact ⟨.ref b,H,I,rfl,q b H (Ab.refl _) (by rw [e]; exact hb)⟩
 ·by_cases hw : its2 = []
  ·have e : ys = [] := by subst hw; cases r2; rfl
   refine concat_meets ⟨_,ho,rfl⟩ ⟨_,ho2,rfl⟩ noFill_tuple_add seq_tuple_add PySem.F.slot_tuple_add PySem.F.entry_tuple_add (PySem.F.args_tuple_add_2 _ _) (tuple_addW1 a b its.toArray its2.toArray n n2 dd dd2 sl sl2 (by simpa using hv) (by simp [hw])) ⟨ho,ho2,?_⟩
   exact ⟨.ref a,H,I,rfl,q a H (Ab.refl _) (by rw [e,List.append_nil]; exact ha)⟩
  ·refine concat_meets ⟨_,ho,rfl⟩ ⟨_,ho2,rfl⟩ noFill_tuple_add seq_tuple_add PySem.F.slot_tuple_add PySem.F.entry_tuple_add (PySem.F.args_tuple_add_2 _ _)
    (tuple_addW2 a b its.toArray its2.toArray n n2 dd dd2 sl sl2 (by simpa using hv) (by simpa using hw) (by rw [List.size_toArray,List.size_toArray]; omega)) ⟨ho,ho2,?_⟩
   have e : its.toArray ++ its2.toArray = (its ++ its2).toArray := by simp
   rw [e]
   exact I.gotNew (t' := s.toks) q (r1.append r2) (by rw [List.length_append]; omega)
theorem NB {t sl : Addr} {items : Array Value} {vl vu : Value} {lo hi : Option Int} {Q : Value -> Shared -> Prop} {prog : Program} {w : World} {A : Around} {E : Value -> Shared -> Prop} {s : Shared} (ht : IsTup s.heap t items) (hs : s.heap.IsSliceOf sl vl vu .none) (pl : IsPart vl lo) (pu : IsPart vu hi)
  (hw : HT.sIx items.size 0 lo = 0 /\ HT.sIx items.size items.size hi = items.size) (h : Q (.ref t) s) : wpAny (model prog w) A (getItem (.ref t) (.ref sl)) Q E s := by
 obtain ⟨os,hos,hcs,hds⟩ := id hs
 have hTs : s.TypeIs (.ref sl) "slice" := ⟨os,hos,hcs⟩
 unfold getItem
 try with_reducible refine wpAny_holding ?_
 first | refine wpAny_bind (wpAny_pure ?_) | skip
 refine wpAny_bind (wpAny_sequenceKey ht.typeIs (by decide) ?_)
 refine wpAny_bind (wpAny_callSpecial?_slot (name := Str.ofString "__getitem__") ht.typeIs PyProof.Rows.slot_tuple_getitem (wpAny_call_entry PyProof.Rows.slot_tuple_getitem ht.typeIs entry_tuple_getitem ?_ (args_tuple_getitem _ _)))
 show wpAny _ _ (Builtin.Tuple.tupleItemsOf (.ref t) >>= _) _ _ s; refine wpAny_bind (tupleItemsOf_ ht ?_); refine wpAny_bind (wpAny_typeOf hTs ?_); rw [if_pos (by decide)]
 refine wpAny_bind (HT.sliceApplied_gen hs pl pu ?_)
 rw [hw.1,hw.2]
 show wpAny _ _ (if (((0 : Nat) : Int) == 0 && (1 : Int) == 1 && (items.size - 0) == items.size) = true then _ else _) _ _ s
 rw [if_pos (by simp)]
 refine wpAny_bind (m := Builtin.Tuple.tupleIsExact _) ?_
 unfold Builtin.Tuple.tupleIsExact
 refine wpAny_bind (wpAny_typeOf ht.typeIs (wpAny_pure ?_))
 rw [if_pos (by decide)]
 exact wpAny_bind (wpAny_rule (wpAny_pure ⟨_,rfl,wpAny_pure h⟩))
def NC : V -> Option Int -> Option Int -> Hp -> VK -> Prop := fun x lo hi H Q => ∃ a xs,x = .ref a /\ H a = some (.tup xs) /\ D7 H (A7 xs lo hi) Q
theorem s_tup : Fq X NC := by
 intro pins s σ H x v vl vu lo hi sl Q I rx hs pl pu h
 obtain ⟨a,xs,rfl,ha,q⟩ := h
 cases rx
 obtain ⟨its,r,ht,hz⟩ := I.tuple (Ac.of ha)
 have hlen : its.toArray.size = xs.length := by rw [List.size_toArray]; exact r.length.symm
 refine ⟨"tuple",_,PyProof.Rows.slot_tuple_getitem.lookup,ht.typeIs,?_⟩
 by_cases hw : HT.sIx xs.length 0 lo = 0 /\ HT.sIx xs.length xs.length hi = xs.length
 ·refine NB ht hs pl pu (by rw [hlen]; exact hw) ⟨.ref a,H,I,rfl,q a H (Ab.refl _) ?_⟩
  unfold A7
  rw [hw.1,hw.2,List.drop_zero,Nat.sub_zero,List.take_length]
  exact ha
 ·refine HT.getItem_tuple_cut ht hs pl pu (by rw [hlen]; exact hw) ?_ (by rw [hlen]; exact hz)
  rw [hlen]
  have e : its.toArray.toList = its := rfl
  rw [e]
  exact I.gotNew (t' := s.toks) q ((r.drop _).take _) (Nat.le_trans (Fr xs lo hi) hz)
theorem JD : fillsNumberSlot (.type "tuple") "mul" = pure false :=
 PySem.fillsNumberSlot_seq (id := "tuple.__mul__") (r := some (.builtin "tuple.__rmul__")) F.slot_tuple_mul.lookup (by decide +kernel) F.slot_tuple_rmul.lookup (by decide +kernel)
theorem JE : seqRepeat? (.type "tuple") = pure (some (.builtin "tuple.__mul__")) := by
 unfold seqRepeat?; rw [PySem.seqSlot_of (T := "tuple") (name := "__mul__") (id := "tuple.__mul__") F.slot_tuple_mul.lookup (by decide +kernel),PySem.seqSlot_of (T := "tuple") (name := "__rmul__") (id := "tuple.__rmul__") F.slot_tuple_rmul.lookup (by decide +kernel)]; rfl
theorem JF (a : Int) (t : Tok) (l : Addr) (items : Array Value) (n : Nat) (dd : Option Addr) (sl : Array (Option Value)) :
  Meets (Builtin.«int.__rmul__» ⟨[.int a t,.ref l],[]⟩) (fun _ R s => s.heap.get? l = some { cls := .type "tuple",dict := dd,data := .seq items n,slots := sl } /\ R (.ok (.ret Value.notImplemented)) s) :=
 .of_wp fun prog w A R s h => by obtain ⟨hp,g,d,tk,os⟩ := s; obtain ⟨hl,h⟩ := h; wp_walk using wpAny_loadPart' hl; exact ⟨_,rfl,h⟩
theorem ND (l : Addr) (items : Array Value) (n : Nat) (dd : Option Addr) (sl : Array (Option Value)) (x : Int) (u : Tok) (hc0 : ¬ (decide (x < -(2 ^ 63)) || decide (x ≥ 2 ^ 63)) = true) (hc1 : ¬ (items.isEmpty || x == 1) = true) (hc2 : ¬ (decide (x <= 0) || items.isEmpty) = true)
  (hc3 : ¬ (items.size : Int) * x > (2 ^ 63 - 1) / 8) (hc4 : ¬ Builtin.Tuple.tupleTooMany ((items.size : Int) * x) = true) (hsz : sizeOk (.seq ((List.replicate x.toNat items).foldl (fun a b => a ++ b) #[]))) :
  Meets (Builtin.«tuple.__mul__» ⟨[.ref l,.int x u],[]⟩) (fun _ R s => s.heap.get? l = some { cls := .type "tuple",dict := dd,data := .seq items n,slots := sl } /\ R (.ok (.ret (Value.ref s.heap.objs.size))) { s with heap := s.heap.push { cls := Value.type "tuple",data := Data.seq ((List.replicate x.toNat items).foldl (fun a b => a ++ b) #[]) } }) :=
 .of_wp fun prog w A R s h => by
  obtain ⟨hp,g,d,tk,os⟩ := s; obtain ⟨hl,h⟩ := h; have f1 := AutoSeq1.idx_int; have f2 := AutoSeq1.sub_tuple_tuple
  wp_walk using wpAny_loadPart' hl
  rw [if_neg hc0]
  refine wpAny_bind (tupleItemsOf_ (items := items) ⟨_,hl,rfl,n,rfl⟩ ?_)
  dsimp only
  rw [if_neg hc1,if_neg hc2,if_neg hc3,if_neg hc4]
  exact wpAny_bind (m := Builtin.Tuple.tupleExact _) (wpAny_newObj_type (wpAny_pure ⟨_,rfl,h⟩) hsz)
def NE : R2 := fun x y H Q => ∃ a k xs,x = .ref a /\ y = .int k /\ H a = some (.tup xs) /\ xs ≠ [] /\ 2 <= k /\ k <= 100 /\ xs.length <= 100 /\ D7 H (List.replicate k.toNat xs).flatten Q
theorem NF : OpR X (binaryOp .Mult) NE := by
  intro pins s σ H x y v u Q I rx ry h
  obtain ⟨a,k,xs,rfl,rfl,ha,hx,h1,h2,h3,q⟩ := h
  cases rx
  obtain ⟨t,rfl⟩ := ry
  obtain ⟨its,r,ht,hz⟩ := I.tuple (Ac.of ha)
  obtain ⟨⟨cls,dd,data,sl⟩,ho,hc,n,hd⟩ := id ht; simp only at hc hd; subst hc hd
  have hl := r.length
  refine wpAny_binaryOp_repeat_ref (T := "tuple") (U := "int") (by decide) ⟨_,ho,rfl⟩ (fun s' => typeIs_int s' k t) JD F.fills_int_mul F.slot_int_rmul JE F.slot_int_index.lookup
    (call_meets F.slot_int_rmul (typeIs_int s k t) F.entry_int_rmul (F.args_int_rmul_2 _ _) (JF k t a its.toArray n dd sl) ⟨ho,rfl,⟨_,ho,rfl⟩,?_⟩)
  have hx' : ¬ its.toArray.isEmpty = true := by
    intro z
    have z' : its = [] := by simpa using z
    subst z'; cases r; exact hx rfl
  have fl : (List.replicate k.toNat its.toArray).foldl (fun a b => a ++ b) #[] = (List.replicate k.toNat its).flatten.toArray := by
    have := Jh its k.toNat []
    rw [List.nil_append] at this
    exact this
  have hp1 : (its.length : Int) * k <= 100 * 100 := Int.mul_le_mul (by omega) (by omega) (by omega) (by omega)
  have hlen : (List.replicate k.toNat its).flatten.length <= 10000 := by
    rw [Ji]
    have : k.toNat * its.length <= 100 * 100 := Nat.mul_le_mul (by omega) (by omega)
    omega
  have hbig : (10000 : Nat) <= sizeLine := by decide
  refine call_meets F.slot_tuple_mul ⟨_,ho,rfl⟩ F.entry_tuple_mul (F.args_tuple_mul_2 _ _) (ND a its.toArray n dd sl k t (by simp; omega) (by simp only [hx',Bool.false_or]; simp; omega) (by simp only [hx',Bool.or_false]; simp; omega) (by rw [List.size_toArray]; omega)
    (by unfold Builtin.Tuple.tupleTooMany; rw [List.size_toArray]; simp; have : (sizeLine : Int) = 16777216 := by decide
        omega) (by rw [fl]; show (List.replicate k.toNat its).flatten.toArray.size <= sizeLine; rw [List.size_toArray]; omega)) ⟨ho,?_⟩
  rw [fl]
  exact I.gotNew (t' := s.toks) q (r.rep k.toNat) (by rw [Ji] at hlen ⊢; rw [hl]; omega)
end
end L2
end
section
namespace L2
open PySem PySem.Spec PyProof.Rows
open AutoSeq1 (wpAny_loadPart')
section
variable {X : Cx}
def NG : List (PyData × PyData) -> Nat | [] => 2 | [(.int i,.int j)] => if i = 0 /\ j = 1 then 6 else 10 ^ 9 | _ => 10 ^ 9
mutual
def Hy : PyData -> Nat
 | .none => 4 | .bool _ => 5 | .int i => if i.natAbs < 10 ^ 31 then 40 else 10 ^ 9 | .str x => (reprText x).length
 | .tuple ds => Hz ds + 4 | .list ds => Hz ds + 4 | .dict kvs => NG kvs
def Hz : List PyData -> Nat
 | [] => 0
 | d :: ds => Hy d + 2 + Hz ds
end
end
end L2
end
section
namespace L2
open PySem PySem.Spec PyProof.Rows
section
variable {X : Cx} {pins : List (Addr × Obj)} {σ : St} {H : Hp} {s : Shared}
mutual
theorem Aa.reads {p : Addr} (I : Ae X pins σ H s) : ∀ (d : PyData) (v : V) (u : Value),d.hasDict = false -> Aa p H d v -> AA v u -> ∃ as,Reads s.heap u d as
 | .none,v,u,_,r,q => by unfold Aa at r; subst r; cases q; exact ⟨_,.none⟩
 | .bool b,v,u,_,r,q => by unfold Aa at r; subst r; cases q; exact ⟨_,.bool b⟩
 | .int i,v,u,_,r,q => by unfold Aa at r; subst r; obtain ⟨t,rfl⟩ := q; exact ⟨_,.int i t⟩
 | .str x,v,u,_,r,q => by unfold Aa at r; subst r; obtain ⟨t,rfl⟩ := q; exact ⟨_,.str x t⟩
 | .tuple ds,v,u,hd,r,q => by
  unfold Aa at r
  obtain ⟨a,xs,rfl,ha,rs⟩ := r
  cases q
  obtain ⟨its,rv,⟨o,ho,hc,n,hdt⟩,_⟩ := I.tuple (Ac.of ha)
  obtain ⟨as,ra⟩ := Ad.reads I ds xs its (by unfold PyData.hasDict at hd; exact hd) rs rv
  exact ⟨as,.tuple ho hc hdt ra⟩
 | .list ds,v,u,hd,r,q => by
  unfold Aa at r
  obtain ⟨a,xs,rfl,_,ha,rs⟩ := r
  cases q
  obtain ⟨its,rv,⟨o,n,ho,hc,_,hdt⟩,_⟩ := I.list (An.of ha)
  obtain ⟨as,ra⟩ := Ad.reads I ds xs its (by unfold PyData.hasDict at hd; exact hd) rs rv
  exact ⟨a :: as,.list ho hc hdt ra⟩
 | .dict kvs,v,u,hd,_,_ => by unfold PyData.hasDict at hd; cases hd
theorem Ad.reads {p : Addr} (I : Ae X pins σ H s) : ∀ (ds : List PyData) (xs : List V) (us : List Value),PyData.hasDictAll ds = false -> Ad p H ds xs -> At xs us -> ∃ as,ReadsAll s.heap us ds as
 | [],xs,us,_,r,q => by unfold Ad at r; subst r; cases q; exact ⟨_,.nil⟩
 | d :: ds,xs,us,hd,r,q => by
  unfold Ad at r
  obtain ⟨x,t,rfl,rx,rt⟩ := r
  unfold PyData.hasDictAll at hd
  obtain ⟨h1,h2⟩ := Bool.or_eq_false_iff.mp hd
  cases q with
  | cons q1 q2 =>
   obtain ⟨as,ra⟩ := Aa.reads I d x _ h1 rx q1
   obtain ⟨bs,rb⟩ := Ad.reads I ds t _ h2 rt q2
   exact ⟨as ++ bs,.cons ra rb⟩
end
mutual
def JG : PyData -> Bool
 | .list _ => false | .tuple ds => JH ds | .none => true | .bool _ => true | .int _ => true | .str _ => true | .dict _ => true
def JH : List PyData -> Bool
 | [] => true
 | d :: ds => JG d && JH ds
end
structure Nice (d : PyData) : Prop where
 w : Hy d <= 1000000
 dp : d.depth <= 20
 nd : d.hasDict = false \/ JG d = true
theorem Ae.big (I : Ae X pins σ H s) : sysModules < s.heap.objs.size := by
 have h : mainGlobals < s.heap.objs.size := (I.mod.glob.keeps I.bk).lt
 exact Nat.lt_trans (by decide) h
end
section
variable {X : Cx} {P : Program} {w : World}
theorem Bk (K : PySem.W.Frag) (h : X.K = K := by rfl) : ED X (I9 K) := h ▸ Mu
theorem AK (K : PySem.W.Frag) (h : X.K = K := by rfl) : ED X (Jc K) := h ▸ Mv
theorem JI (K : PySem.W.Frag) (h : X.K = K := by rfl) : Fq X (Jd K) := h ▸ MA
theorem D8 (K : PySem.W.Frag) (h : X.K = K := by rfl) : OpR X (compareOp .In) (Jf K false) := h ▸ MC
def NH (K : PySem.W.Frag) : List V -> Hp -> VK -> Prop := fun xs H Q => ∃ p ys,xs = [.ref p] /\ (An K H p ys \/ Ac K H p ys) /\ Q (.int (ys : List V).length) H
theorem Bb (K : PySem.W.Frag) (h : X.K = K := by rfl) : Bx X (.builtin "len") (NH K) := h ▸ MD
def NI (K : PySem.W.Frag) : List V -> Hp -> VK -> Prop := fun xs H Q => ∃ p ys,xs = [.ref p] /\ ((An K H p ys /\ ∀ l,H l = none -> Q (.ref l) (upd H l (.tup ys))) \/ (Ac K H p ys /\ Q (.ref p) H))
theorem B0 (K : PySem.W.Frag) (h : X.K = K := by rfl) : Bx X (.type "tuple") (NI K) := h ▸ ME
theorem AC (K : PySem.W.Frag) {es : List Expr} {k : Nat} {t : Dh} {n : Nat} {pos : Pos} (h : Ex X es t) (hK : X.K = K := by rfl) (hc : X.calm = true := by rfl) (hn : (assignEach es X.env).length = n := by rfl) (hst : (assignEach es X.env).findIdx? (·.1) = none := by rfl) :
  PG X (.Tuple es k pos) (Ix K n t) := hK ▸ LH hc h hn hst
theorem EN (K : PySem.W.Frag) {tg l : Expr} {tl : TE} (hl : PE X l tl) (h : X.K = K := by rfl) : PI X tg l (IG K tl) := h ▸ LS hl
theorem BJ (K : PySem.W.Frag) {tg l : Expr} {tl : TE} (hl : PE X l tl) (h : X.K = K := by rfl) : PI X tg l (IH K tl) := h ▸ LT hl
theorem DL (P : Program) (w : World) (K : PySem.W.Frag) {es : List Expr} {k : Nat} {p pos pos' : Pos} {a : Expr} {ta : TA} (hg : Gl X "enumerate") (hm : X.mg "enumerate" = none) (ha : PA X [a] ta) (hP : X.prog = P := by rfl) (hw : X.w = w := by rfl) (hK : X.K = K := by rfl) (hs : starEach [a] X.env = [(false,eval a X.env)] := by rfl) :
  PI X (.Tuple es k pos') (.Call (.Name "enumerate" p) [a] [] pos) (Ju (Cj P w K) ta) := by subst hP hw hK; exact M7 hg hm ha hs
theorem NJ (P : Program) (w : World) (K : PySem.W.Frag) {es : List Expr} {k : Nat} {p pos pos' : Pos} {e1 e2 : Expr} {ta : TA} (hg : Gl X "zip") (hm : X.mg "zip" = none) (ha : PA X [e1,e2] ta) (hP : X.prog = P := by rfl) (hw : X.w = w := by rfl) (hK : X.K = K := by rfl)
  (hs : starEach [e1,e2] X.env = [(false,eval e1 X.env),(false,eval e2 X.env)] := by rfl) (hs2 : starEach [e2] X.env = [(false,eval e2 X.env)] := by rfl) :
  PI X (.Tuple es k pos') (.Call (.Name "zip" p) [e1,e2] [] pos) (EJ (Cj P w K) (Hv P w K) ta) := by subst hP hw hK; exact Nh hg hm ha hs hs2
theorem EO (P : Program) (w : World) (K : PySem.W.Frag) {es : List Expr} {k : Nat} {p pos pos' : Pos} {e1 e2 : Expr} {ta : TA} (hg : Gl X "zip") (hm : X.mg "zip" = none) (ha : PA X [e1,e2] ta) (hP : X.prog = P := by rfl) (hw : X.w = w := by rfl) (hK : X.K = K := by rfl)
  (hs : starEach [e1,e2] X.env = [(false,eval e1 X.env),(false,eval e2 X.env)] := by rfl) (hs2 : starEach [e2] X.env = [(false,eval e2 X.env)] := by rfl) :
  PI X (.Tuple es k pos') (.Call (.Name "zip" p) [e1,e2] [] pos) (EJ (Cj P w K) (Cj P w K) ta) := by subst hP hw hK; exact Ni hg hm ha hs hs2
end
section
variable {X : Cx}
def NK : List V -> Hp -> VK -> Prop := fun xs H Q => ∃ (p : Addr) (ns : List Int),xs = [.ref p] /\ H p = some (.lst (ns.map V.int)) /\ Q (.int ns.sum) H
theorem HA : ∀ {ns : List Int} {us : List Value},At (ns.map V.int) us -> IntsAre us ns
 | [],us,h => by cases h; exact .nil
 | n :: ns,us,h => by
  cases h with
  | cons r t => obtain ⟨k,rfl⟩ := r; exact .cons n k (HA t)
theorem EQ (hc : X.calm = true) : Bx X (.builtin "sum") NK := by
 intro pins s σ H xs us Q I r h
 obtain ⟨p,ns,rfl,hp,q⟩ := h
 obtain ⟨u,rfl,ru⟩ := r.one
 cases ru
 obtain ⟨its,rv,pl,hz⟩ := I.list (An.of hp)
 have hi := HA rv
 obtain ⟨xs,hx⟩ := AllInts.items hi.allInts
 have hl : s.heap.IsList p (intItems xs) := hx ▸ pl.isList
 refine sum_intListG (I.ok.hd hc) hl fun h' tk t' hk => ?_
 have e1 : ns = xs.toList.map (fun x => x.fst) := by rw [<- nums_intItems,<- hx,List.toList_toArray,hi.numsOf]
 have e2 : preSum (numAt xs) xs.size = ns.sum := by
  rw [preSum_eq,List.take_of_length_le (by simp),<- e1]
 rw [e2]
 exact ⟨.int ns.sum,H,I.kept fun b o eb => hk b o eb,⟨t',rfl⟩,q⟩
end
def ER (lo st : Int) (n : Nat) : It := { go := fun i _ => i < n,yld := fun i H x H' => H' = H /\ x = .int (lo + i * st),stop := fun i _ => n <= i }
theorem NL {P : Program} {w : World} {K : PySem.W.Frag} {tg : Expr} (it : Addr) (lo st : Int) (n : Nat) : CC P w K tg (ER lo st n) [it] it (fun i h => IsRangeIter h it (lo + (i : Nat) * st) ((n : Int) - (i : Nat)) st) where
 mem := by simp
 obj := fun i h hs b hb => by
  obtain rfl : b = it := by simpa using hb
  exact ⟨_,hs,fun v z => by
   have z' : Data.fields _ = Data.cell v := z
   cases z'⟩
 keep := fun i h h' hs k => k it (by simp) _ hs
 item := by
  intro X hP hw hK hc i pins s σ H E I hf hs hg
  subst hP hw hK
  obtain ⟨f0,f1,f2,f3,f4,f5⟩ := hf it (by simp)
  have W := Walks.range (prog := X.prog) (w := X.w) (I.ok.hd hc) it lo st n
  refine W.item i s _ _ hg hs fun v h' tk hv st' kk => ?_
  obtain ⟨t,rfl⟩ := hv
  have I1 : Ae X pins σ H { s with heap := h',toks := tk } := I.turned (fun b o hb e => kk b o (by simpa using hb) e) f0 f1 f3 f4 f5
  exact ⟨_,rfl,Fh (s := { s with heap := h',toks := tk }) (n := "range_iterator") st' rfl rfl (by decide) ⟨.int (lo + i * st),H,I1,⟨t,rfl⟩,⟨rfl,rfl⟩,st',fun b hb => (hf b hb).1⟩⟩
 done := by
  intro X hP hw hK hc i pins s σ H E I hf hs hg
  subst hP hw hK
  obtain ⟨f0,f1,f2,f3,f4,f5⟩ := hf it (by simp)
  exact wpAny_pyNext_range_end (I.ok.hd hc) hs (by have : n <= i := hg; omega) fun h' eb => ⟨rfl,I.turned (t' := s.toks) (fun b o hb e => eb b o hb e) f0 f1 f3 f4 f5⟩
 self := fun _ _ _ _ _ hs h => wpAny_pyIter_rangeiter hs h
def CZ (i j k : Int) : Nat := (Builtin.Range.rangeSize i j k).toNat
theorem JJ {i j k : Int} (h : 1 <= k) (hi : -1000 <= i) (hj : j <= 1000) : 0 <= Builtin.Range.rangeSize i j k /\ Builtin.Range.rangeSize i j k <= 2001 := by
 unfold Builtin.Range.rangeSize
 rw [if_pos (by omega)]
 split
 ·have h1 : 0 <= (j - i - 1) / k := Int.ediv_nonneg (by omega) (by omega)
  have h2 : (j - i - 1) / k <= (j - i - 1) := Int.ediv_le_self _ (by omega)
  omega
 ·omega
theorem NM {i j k : Int} (h : 1 <= k) (hk : k <= 1000) (hi : -1000 <= i) (hi' : i <= 1000) (hj : -1000 <= j) (hj' : j <= 1000) : Builtin.Range.small i j k = true := by
 obtain ⟨a,b⟩ := JJ h hi hj'
 have f : ∀ z : Int,-5000 <= z -> z <= 5000 -> Builtin.Range.rangeFitsLong z = true := fun z z1 z2 => by
  unfold Builtin.Range.rangeFitsLong
  simp only [Bool.and_eq_true,decide_eq_true_eq]
  omega
 unfold Builtin.Range.small
 rw [f i (by omega) (by omega),f j (by omega) (by omega),f k (by omega) (by omega),f _ (by omega) (by omega),if_pos (by omega),f (j + (k - 1)) (by omega) (by omega)]
 simp
section
variable {X : Cx} {tg : Expr}
end
theorem NN {lo st : Int} {n : Nat} {g : TG} {tb : TS} {D : Cq} {σ : St} {H : Hp} (Pv : Nat -> St -> Hp -> Prop) (h0 : Pv 0 σ H)
  (hs : ∀ i σ H,i < n -> Pv i σ H -> g (.int (lo + i * st)) σ H fun σ2 H2 => tb { D with nx := Pv (i + 1),ct := Pv (i + 1),bk := D.nx } σ2 H2) (hd : ∀ σ H,Pv n σ H -> D.nx σ H) :
  ∃ W : Nat -> Nat -> St -> Hp -> Prop,(∃ m,W 0 m σ H) /\ ∀ i m σ H,W i m σ H ->
   ((ER lo st n).stop i H /\ D.nx σ H) \/ ((ER lo st n).go i H /\ ∃ N : St -> Hp -> Prop,(∀ σ' H',N σ' H' -> ∃ m',m' < m /\ W (i + 1) m' σ' H') /\ ∀ x H',(ER lo st n).yld i H x H' -> g x σ H' fun σ2 H2 => tb { D with nx := N,ct := N,bk := D.nx } σ2 H2) := by
 refine ⟨fun i m σ H => m = n - i /\ i <= n /\ Pv i σ H,⟨n,by simp,Nat.zero_le _,h0⟩,?_⟩
 rintro i m σ H ⟨rfl,hi,p⟩
 by_cases hlt : i < n
 ·refine .inr ⟨hlt,Pv (i + 1),fun σ' H' p' => ⟨n - (i + 1),by omega,rfl,hlt,p'⟩,fun x H' ⟨e,y⟩ => ?_⟩
  subst e y
  exact hs i σ _ hlt p
 ·obtain rfl : i = n := by omega
  exact .inl ⟨Nat.le_refl _,hd σ H p⟩
end L2
end
section
namespace MF
open PySem PySem.Spec PyProof.Rows L2
variable {α : Type} {i : Nat} {h : Int} {ws : List Bool} {p : Addr} {H : Hp} {xs : List V}
theorem _root_.L2.walk_enum {P : Program} {w : World} {K : PySem.W.Frag} {S : Ba P w K} {a : Addr} {xs : List V} {cap : List (Option Nat)} {g : TG} {tt : TT} {te : TE} {σ : L2.St} {Q : List V -> Hp -> Prop} {H : Hp} (Pv : Nat -> List V -> Hp -> Prop) (hn : xs.length <= 100000) (h0 : Pv 0 [] H) (hz : ∀ i zs H,Pv i zs H -> zs.length <= i)
  (hl : ∀ i zs H,Pv i zs H -> S.Sq H a xs)
  (hs : ∀ i x zs H T,xs[i]? = some x -> Pv i zs H -> H T = none -> g (.ref T) (AM cap σ) (upd H T (.tup [.int i,x])) fun σ2 H2 => Keep (AM cap σ) σ2 /\ tt σ2 H2 fun b H3 => br b (te σ2 H3 fun y H4 => Pv (i + 1) (zs ++ [y]) H4) (Pv (i + 1) zs H3))
  (hd : ∀ zs H,Pv xs.length zs H -> Q zs H) : DF (DG S a) cap g tt te σ Q H :=
 D5 xs.length Pv hn h0 hz (fun i zs H hi p => by
  have q := hl i zs H p
  refine ⟨⟨xs,xs[i],q,by simp [hi]⟩,fun v H' ⟨T,e,n,y⟩ => ?_⟩
  subst e
  rw [y xs xs[i] q (by simp [hi])]
  exact hs i xs[i] zs H T (by simp [hi]) p n)
  fun zs H p => ⟨⟨xs,hl _ zs H p,rfl⟩,hd zs H p⟩
theorem _root_.L2.for_enum {P : Program} {w : World} {K : PySem.W.Frag} {S : Ba P w K} {a : Addr} {xs : List V} {g : TG} {tb : TS} {D : Cq} {σ : L2.St} {H : Hp} (Pv : Nat -> L2.St -> Hp -> Prop) (h0 : Pv 0 σ H) (hl : ∀ i σ H,Pv i σ H -> S.Sq H a xs)
  (hs : ∀ i x σ H T,xs[i]? = some x -> Pv i σ H -> H T = none -> g (.ref T) σ (upd H T (.tup [.int i,x])) fun σ2 H2 => tb { D with nx := Pv (i + 1),ct := Pv (i + 1),bk := D.nx } σ2 H2) (hd : ∀ σ H,Pv xs.length σ H -> D.nx σ H) :
  ∃ W : Nat -> Nat -> L2.St -> Hp -> Prop,(∃ m,W 0 m σ H) /\ ∀ i m σ H,W i m σ H ->
   ((DG S a).stop i H /\ D.nx σ H) \/ ((DG S a).go i H /\ ∃ N : L2.St -> Hp -> Prop,(∀ σ' H',N σ' H' -> ∃ m',m' < m /\ W (i + 1) m' σ' H') /\ ∀ x H',(DG S a).yld i H x H' -> g x σ H' fun σ2 H2 => tb { D with nx := N,ct := N,bk := D.nx } σ2 H2) := by
 refine ⟨fun i m σ H => m = xs.length - i /\ i <= xs.length /\ Pv i σ H,⟨xs.length,by simp,Nat.zero_le _,h0⟩,?_⟩
 rintro i m σ H ⟨rfl,hi,p⟩
 have q := hl i σ H p
 by_cases hlt : i < xs.length
 ·refine .inr ⟨⟨xs,xs[i],q,by simp [hlt]⟩,Pv (i + 1),fun σ' H' p' => ⟨xs.length - (i + 1),by omega,rfl,hlt,p'⟩,fun x H' ⟨T,e,n,y⟩ => ?_⟩
  subst e
  rw [y xs xs[i] q (by simp [hlt])]
  exact hs i xs[i] σ H T (by simp [hlt]) p n
 ·obtain rfl : i = xs.length := by omega
  exact .inl ⟨⟨xs,q,rfl⟩,hd σ H p⟩
structure PL where
 bs : List (Int × Int)
 es : List (Int × Int × Int)
 lo : Int
 hi : Int
 st : Int
abbrev bD (q : Int × Int) : PyData := .tuple [.int q.1,.int q.2]
abbrev eD (q : Int × Int × Int) : PyData := .tuple [.int q.1,.int q.2.1,.int q.2.2]
def PL.d (P : PL) : PyData := .tuple [.tuple (P.bs.map bD),.tuple (P.es.map eD),.tuple [.int P.lo,.int P.hi,.int P.st]]
structure PL.ok (P : PL) : Prop where
 b : ∀ q ∈ P.bs,1 <= q.1 /\ q.1 <= 9 /\ 1 <= q.2 /\ q.2 <= 9
 b1 : 1 <= P.bs.length
 b4 : P.bs.length <= 4
 e : ∀ q ∈ P.es,1 <= q.1 /\ q.1 <= 9 /\ 0 <= q.2.1 /\ q.2.1 <= 7 /\ 1 <= q.2.2 /\ q.2.2 <= 8
 e4 : P.es.length <= 4
 lo0 : 0 <= P.lo
 ls : P.lo <= P.st
 sh : P.st <= P.hi
 h4 : P.hi <= 40
structure FT where
 b : Int
 out : Bool
 f : Int
 l : Int
def wS (b : Bool) : Str := if b then "out" else "scaled"
abbrev wV (b : Bool) : V := .str (wS b)
abbrev FT.d (x : FT) : PyData := .tuple [.int x.b,.str (wS x.out),.int x.f,.int x.l]
structure SY where
 ex : List Int
 fs : List FT
def SY.d (S : SY) : PyData := .tuple [.tuple (S.ex.map .int),.tuple (S.fs.map FT.d)]
structure FT.ok (x : FT) (n h : Nat) : Prop where
 b0 : 0 <= x.b
 bn : x.b < n
 f0 : 0 <= x.f
 fl : x.f <= x.l
 lh : x.l < h
structure SY.ok (S : SY) (n : Nat) : Prop where
 x1 : 1 <= S.ex.length
 x8 : S.ex.length <= 8
 x : ∀ u ∈ S.ex,0 <= u /\ u <= 20
 f4 : S.fs.length <= 4
 f : ∀ x ∈ S.fs,x.ok n S.ex.length
def BC (ws : List Bool) (m : Int) : Int := if ws.any id then 0 else if ws.any (!·) then m / 2 else m
def BQ (b h : Int) (x : FT) : Bool := x.b == b && decide (x.f <= h) && decide (h <= x.l)
def Bm (fs : List FT) (b h : Int) : List Bool := (fs.filter (BQ b h)).map FT.out
def Bs (bs : List (Int × Int)) (fs : List FT) (h : Int) : List Int := bs.zipIdx.map fun q => BC (Bm fs q.2 h) q.1.1
def caps (P : PL) (S : SY) : List (List Int) := (List.range S.ex.length).map fun (h : Nat) => Bs P.bs S.fs (h : Int)
def drawn (q : Int × Int × Int) (h : Int) : Int := if h < q.2.1 \/ (h - q.2.1) % q.2.2 ≠ 0 then 0 else q.1
def draws (P : PL) (S : SY) : List Int := S.ex.zipIdx.map fun q => q.1 + (P.es.map fun e => drawn e q.2).sum
abbrev AQ (r : List Int) : PyData := .tuple (r.map .int)
def FL (P : PL) (S : SY) : PyData := .tuple ((caps P S).map AQ)
def HB (P : PL) (S : SY) : PyData := AQ (draws P S)
def ret (H : Hp) (Q : VK) (p : Addr) (d : PyData) : Prop := ∀ v H',Ab H H' -> Aa p H' d v -> Q v H'
theorem A3 {l : List α} {x : α} (h : l[i]? = some x) : l.take (i + 1) = l.take i ++ [x] := by rw [List.take_add_one,h]; rfl
theorem HC {bs : List (Int × Int)} {fs : List FT} {q : Int × Int} (hq : bs[i]? = some q) : (Bs bs fs h)[i]? = some (BC (Bm fs i h) q.1) := by
 unfold Bs; rw [List.getElem?_map,List.getElem?_zipIdx,hq]; simp
theorem FM {bs : List (Int × Int)} {fs : List FT} : (Bs bs fs h).length = bs.length := by unfold Bs; simp
theorem Do {P : PL} {S : SY} (h : i < S.ex.length) : (caps P S)[i]? = some (Bs P.bs S.fs i) := by
 unfold caps; rw [List.getElem?_map,List.getElem?_range h]; rfl
theorem C0 {P : PL} {S : SY} : (caps P S).length = S.ex.length := by unfold caps; simp
theorem HD {P : PL} {S : SY} {u : Int} (hu : S.ex[i]? = some u) : (draws P S)[i]? = some (u + (P.es.map fun e => drawn e i).sum) := by
 unfold draws; rw [List.getElem?_map,List.getElem?_zipIdx,hu]; simp
theorem draws_len {P : PL} {S : SY} : (draws P S).length = S.ex.length := by unfold draws; simp
theorem FN : BH (.str "out") (ws.map wV) = ws.any id := by
 induction ws with
 | nil => rfl
 | cons b ws ih =>
  unfold BH at ih ⊢
  rw [List.map_cons,List.any_cons,ih,List.any_cons]
  cases b <;> rfl
theorem HE : BH (.str "scaled") (ws.map wV) = ws.any (!·) := by
 induction ws with
 | nil => rfl
 | cons b ws ih =>
  unfold BH at ih ⊢
  rw [List.map_cons,List.any_cons,ih,List.any_cons]
  cases b <;> rfl
theorem FO : (ws.map wV).all CJ = true := by
 rw [List.all_map,List.all_eq_true]
 intro b _
 rfl
theorem NO (b : Bool) : BH (wV b) [.str "out",.str "scaled"] = true := by cases b <;> rfl
theorem JK {fs : List FT} {x : FT} {b : Int} (hx : fs[i]? = some x) : Bm (fs.take (i + 1)) b h = if BQ b h x then Bm (fs.take i) b h ++ [x.out] else Bm (fs.take i) b h := by
 unfold Bm
 rw [A3 hx,List.filter_append]
 by_cases c : BQ b h x = true
 ·rw [if_pos c,List.filter_cons_of_pos c,List.map_append]; rfl
 ·rw [if_neg c,List.filter_cons_of_neg c,List.filter_nil,List.append_nil]
theorem Ad.mapGot {f : α -> PyData} {l : List α} {x : V} (r : Ad p H (l.map f) xs) (h : xs[i]? = some x) : ∃ a,l[i]? = some a /\ Aa p H (f a) x := by
 obtain ⟨d,hd,rd⟩ := r.got h
 rw [List.getElem?_map] at hd
 cases z : l[i]? with
 | none => rw [z] at hd; cases hd
 | some a => rw [z] at hd; cases hd; exact ⟨a,rfl,rd⟩
theorem Ad.ints : ∀ {ns : List Int} {xs : List V},Ad p H (ns.map .int) xs -> xs = ns.map V.int
 | [],xs,r => by unfold Ad at r; exact r
 | n :: ns,xs,r => by
  rw [List.map_cons] at r
  unfold Ad at r
  obtain ⟨x,t,rfl,rx,rt⟩ := r
  unfold Aa at rx
  rw [rx,Ad.ints rt]; rfl
theorem Ad.ofInts : ∀ {ns : List Int},Ad p H (ns.map .int) (ns.map V.int)
 | [] => .nil
 | n :: ns => .cons Aa.int Ad.ofInts
theorem Ad.snoc {ds : List PyData} {d : PyData} {x : V} (r : Ad p H ds xs) (h : Aa p H d x) : Ad p H (ds ++ [d]) (xs ++ [x]) := r.append (.cons h .nil)
theorem Aa.row {a : Addr} {r : List Int} (h : H a = some (.tup (r.map V.int))) : Aa p H (AQ r) (.ref a) := Aa.tup h Ad.ofInts
theorem Ab.own {H' : Hp} {b : Addr} {o : HO} (s : Ab H H') (n : H b = none) : Ab H (upd H' b o) := fun x u q => by rw [Au (A6 q n)]; exact s x u q
theorem Ad.four {a b c d : PyData} (r : Ad p H [a,b,c,d] xs) : ∃ x y z w,xs = [x,y,z,w] /\ Aa p H a x /\ Aa p H b y /\ Aa p H c z /\ Aa p H d w := by
 unfold Ad at r; obtain ⟨x,s,rfl,hx,r⟩ := r; unfold Ad at r; obtain ⟨y,s,rfl,hy,r⟩ := r; unfold Ad at r; obtain ⟨z,s,rfl,hz,r⟩ := r; unfold Ad at r; obtain ⟨w,s,rfl,hw,r⟩ := r; unfold Ad at r; subst r; exact ⟨x,y,z,w,rfl,hx,hy,hz,hw⟩
theorem NP {a b : V} (h : (!decide (a = b)) = true) : a ≠ b := by simpa using h
structure Small (n k : Nat) (d : PyData) : Prop where
 w : Hy d <= n
 dp : d.depth <= k
 nd : d.hasDict = false
theorem NQ {ws : List Bool} {m : Int} (h0 : 0 <= m) (h9 : m <= 9) : 0 <= BC ws m /\ BC ws m <= m := by
 unfold BC
 split
 ·omega
 ·split
  ·omega
  ·omega
theorem FP {P : PL} {S : SY} (ok : P.ok) : ∀ r ∈ caps P S,(∀ i ∈ r,0 <= i /\ i <= 9) /\ r.length = P.bs.length := fun r hr => by
 unfold caps at hr
 obtain ⟨h,_,rfl⟩ := List.mem_map.mp hr
 refine ⟨fun i hi => ?_,FM⟩
 unfold Bs at hi
 obtain ⟨q,hq,rfl⟩ := List.mem_map.mp hi
 obtain ⟨b1,b2,_⟩ := ok.b q.1 (List.fst_mem_of_mem_zipIdx hq)
 have := NQ (ws := Bm S.fs q.2 h) (m := q.1.1) (by omega) b2
 omega
theorem NR {q : Int × Int × Int} (h1 : 1 <= q.1) (h9 : q.1 <= 9) : 0 <= drawn q h /\ drawn q h <= 9 := by
 unfold drawn
 split <;> omega
theorem JL {l : List Int} (h : ∀ i ∈ l,0 <= i /\ i <= 9) : 0 <= l.sum /\ l.sum <= 9 * l.length := by
 induction l with
 | nil => exact ⟨Int.le_refl _,Int.le_refl _⟩
 | cons a l ih =>
  have := h a List.mem_cons_self
  have := ih fun i hi => h i (List.mem_cons_of_mem _ hi)
  rw [List.sum_cons,List.length_cons]
  omega
theorem FQ {P : PL} {S : SY} (ok : P.ok) {n : Nat} (so : S.ok n) : ∀ i ∈ draws P S,0 <= i /\ i <= 56 := fun i hi => by
 unfold draws at hi
 obtain ⟨q,hq,rfl⟩ := List.mem_map.mp hi
 have a := so.x q.1 (List.fst_mem_of_mem_zipIdx hq)
 have b := JL (l := P.es.map fun e => drawn e q.2) fun i hi => by
  obtain ⟨e,he,rfl⟩ := List.mem_map.mp hi
  obtain ⟨e1,e2,_⟩ := ok.e e he
  exact NR e1 e2
 rw [List.length_map] at b
 have := ok.e4
 omega
theorem NS {l : List Int} (h : i < l.length) : l[i]? = some (l.getD i 0) := by rw [List.getD_eq_getElem?_getD,List.getElem?_eq_getElem h]; rfl
theorem NT {f e : Int} {n t : Nat} (he : 1 <= e) : t < CZ f n e ↔ f + t * e < n := by
 unfold CZ Builtin.Range.rangeSize
 rw [if_pos (by omega)]
 by_cases c : f < n
 ·rw [if_pos c]
  have h1 : 0 <= ((n : Int) - f - 1) / e := Int.ediv_nonneg (by omega) (by omega)
  have h2 : (t : Int) <= ((n : Int) - f - 1) / e ↔ (t : Int) * e <= (n : Int) - f - 1 := Int.le_ediv_iff_mul_le (by omega)
  constructor
  ·intro h
   have := h2.mp (by omega)
   omega
  ·intro h
   have := h2.mpr (by omega)
   omega
 ·rw [if_neg c]
  have h3 : 0 <= (t : Int) * e := Int.mul_nonneg (by omega) (by omega)
  constructor
  ·intro h; exact absurd h (Nat.not_lt_zero _)
  ·intro h; omega
theorem NU {m : Int} (c : ws.any id = false) : m / (1 + if ws.any (!·) = true then 1 else 0) = BC ws m := by
 unfold BC
 rw [c,if_neg (by decide : ¬ (false = true))]
 cases ws.any (!·) with
 | true => rfl
 | false => exact Int.ediv_one _
end MF
end
section
namespace L2
open PySem PySem.Spec PyProof.Rows
section
variable {X : Cx}
def NV : List V -> Hp -> VK -> Prop := fun xs H Q => ∃ (p : Addr) (ns : List Int),xs = [.ref p] /\ (H p = some (.lst (ns.map V.int)) \/ H p = some (.tup (ns.map V.int))) /\ Q (.int ns.sum) H
theorem Dp (hc : X.calm = true) : Bx X (.builtin "sum") NV := by
 intro pins s σ H xs us Q I r h
 obtain ⟨p,ns,rfl,hp,q⟩ := h
 rcases hp with hp | hp
 ·exact EQ hc pins s σ H _ us Q I r ⟨p,ns,rfl,hp,q⟩
 obtain ⟨u,rfl,ru⟩ := r.one
 cases ru
 obtain ⟨its,rv,pl,hz⟩ := I.tuple (Ac.of hp)
 have hi := HA rv
 obtain ⟨xs,hx⟩ := AllInts.items hi.allInts
 have e1 : ns = xs.toList.map (fun x => x.fst) := by rw [<- nums_intItems,<- hx,List.toList_toArray,hi.numsOf]
 have e2 : preSum (numAt xs) xs.size = ns.sum := by
  rw [preSum_eq,List.take_of_length_le (by simp),<- e1]
 have hl : s.heap.IsTuple p (intItems xs) := hx ▸ (show s.heap.IsTuple p its.toArray from pl)
 refine call_sum_walkG (wpAny_pyIter_tuple hl ?_)
 have hlt : p < s.heap.objs.size := by
  obtain ⟨o,ho,_⟩ := id hl
  exact Heap.lt_size ho
 refine ⟨s.heap.objs.size,_,_,_,_,_,numAt xs,rfl,Walks.tuple (A := X.A.in1) (I.ok.hd hc) s.heap.objs.size p (Nat.ne_of_lt hlt) (intItems xs),⟨⟨_,Heap.get?_push_size _ rfl,rfl,rfl⟩,?_⟩,fun b hb => ?_,fun i v hv => intItems_at hv,fun h' tk t' hk => ?_⟩
 ·obtain ⟨o,ho,ho2⟩ := id hl
  exact ⟨o,Heap.get?_push_of_some _ ho,ho2⟩
 ·have : b = s.heap.objs.size \/ b = p := by simpa using hb
  rw [show (s.heap.push _).objs.size = s.heap.objs.size + 1 from Array.size_push _]
  rcases this with rfl | rfl
  ·exact Nat.lt_succ_self _
  ·exact Nat.lt_succ_of_lt hlt
 ·have e3 : (intItems xs).size = xs.size := Array.size_map
  rw [e3,e2]
  refine ⟨.int ns.sum,H,I.kept fun b o eb => hk b o ?_ (Heap.get?_push_of_some _ eb),⟨t',rfl⟩,q⟩
  intro z
  have z' : b = s.heap.objs.size := by simpa using z
  exact absurd (Heap.lt_size eb) (by rw [z']; exact Nat.lt_irrefl _)
end
end L2
end
section
namespace MF
open PySem PySem.Spec PyProof.Rows L2
variable {H H' : Hp} {p : Addr} {P : PL} {S : SY} {F : List (List Int)} {v u : V} {i k : Nat}
theorem _root_.L2.walk_zip {P : Program} {w : World} {K : PySem.W.Frag} {S1 S2 : Ba P w K} {a b : Addr} {xs ys : List V} {cap : List (Option Nat)} {g : TG} {tt : TT} {te : TE} {σ : L2.St} {Q : List V -> Hp -> Prop} {H : Hp} (Pv : Nat -> List V -> Hp -> Prop) (hn : xs.length <= 100000) (he : xs.length = ys.length) (h0 : Pv 0 [] H) (hz : ∀ i zs H,Pv i zs H -> zs.length <= i)
  (hl : ∀ i zs H,Pv i zs H -> S1.Sq H a xs /\ S2.Sq H b ys)
  (hs : ∀ i x y zs H T,xs[i]? = some x -> ys[i]? = some y -> Pv i zs H -> H T = none -> g (.ref T) (AM cap σ) (upd H T (.tup [x,y])) fun σ2 H2 => Keep (AM cap σ) σ2 /\ tt σ2 H2 fun b H3 => br b (te σ2 H3 fun y H4 => Pv (i + 1) (zs ++ [y]) H4) (Pv (i + 1) zs H3))
  (hd : ∀ zs H,Pv xs.length zs H -> Q zs H) : DF (DH S1 S2 a b) cap g tt te σ Q H :=
 D5 xs.length Pv hn h0 hz (fun i zs H hi p => by
  obtain ⟨q1,q2⟩ := hl i zs H p
  have hy : i < ys.length := by omega
  refine ⟨⟨xs,ys,xs[i],ys[i],q1,q2,by simp [hi],by simp [hy]⟩,fun v H' ⟨T,e,n,y⟩ => ?_⟩
  subst e
  rw [y xs ys xs[i] ys[i] q1 q2 (by simp [hi]) (by simp [hy])]
  exact hs i xs[i] ys[i] zs H T (by simp [hi]) (by simp [hy]) p n)
  fun zs H p => ⟨⟨xs,ys,(hl _ zs H p).1,(hl _ zs H p).2,rfl⟩,hd zs H p⟩
theorem Ab.evOwn {H2 : Hp} {R : Addr} (s : Ab H H2) (n : H R = none) (e : Ev R H2 H') : Ab H H' := fun b o q => (e b o (s b o q)).elim (fun ⟨z,_⟩ => by rw [z,n] at q; cases q) id
def FD (F : List (List Int)) : PyData := .tuple (F.map AQ)
structure DM (P : PL) (S : SY) (F : List (List Int)) : Prop where
 len : F.length = S.ex.length
 row : ∀ (i : Nat) (r : List Int),F[i]? = some r -> r.length = P.bs.length
 bd : ∀ (i : Nat) (r : List Int) (j : Nat) (x c : Int),F[i]? = some r -> r[j]? = some x -> (Bs P.bs S.fs i)[j]? = some c -> 0 <= x /\ x <= c
structure Tri (p : Addr) (H : Hp) (P : PL) (S : SY) (F : List (List Int)) (v u w : V) : Prop where
 ok : P.ok
 so : S.ok P.bs.length
 fo : DM P S F
 r : Aa p H P.d v
 ru : Aa p H S.d u
 rw : Aa p H (FD F) w
theorem Tri.ev {w : V} (t : Tri p H P S F v u w) (e : Ev p H H') : Tri p H' P S F v u w := ⟨t.ok,t.so,t.fo,Aa.ev e _ _ t.r,Aa.ev e _ _ t.ru,Aa.ev e _ _ t.rw⟩
theorem Tri.sm {w : V} (t : Tri p H P S F v u w) (e : Ab H H') : Tri p H' P S F v u w := t.ev (Ev.same e)
def made (F : List (List Int)) (i : Nat) : Int := (F.getD i []).sum
def BR (P : PL) (S : SY) (i : Nat) : Int := (draws P S).getD i 0
def A1 (hi m : Int) : Int := if 0 > m - hi then 0 else m - hi
def Ay (P : PL) (S : SY) (F : List (List Int)) : Nat -> Int
 | 0 => P.st
 | i + 1 => Ay P S F i + (made F i - BR P S i) - A1 P.hi (Ay P S F i + (made F i - BR P S i))
def AH (P : PL) (S : SY) (F : List (List Int)) (i : Nat) : Int := Ay P S F i + (made F i - BR P S i)
theorem Ca : Ay P S F (i + 1) = AH P S F i - A1 P.hi (AH P S F i) := rfl
def JM (P : PL) (S : SY) (F : List (List Int)) (i : Nat) : PyData := .tuple [.int (made F i),.int (BR P S i),.int (A1 P.hi (AH P S F i)),.int (Ay P S F (i + 1))]
def Dq (P : PL) (S : SY) (F : List (List Int)) (k : Nat) : List PyData := (List.range k).map (JM P S F)
theorem NW : Dq P S F (k + 1) = Dq P S F k ++ [JM P S F k] := by unfold Dq; rw [List.range_succ,List.map_append]; rfl
theorem NX : (Dq P S F k).length = k := by unfold Dq; simp
def ES : Option (Int × Int) -> PyData
 | none => .none
 | some q => .tuple [.int q.1,.int q.2]
structure Run (P : PL) (S : SY) (F : List (List Int)) (k : Nat) (s : Option (Int × Int)) : Prop where
 le : k <= S.ex.length
 up : ∀ i,i < k -> P.lo <= AH P S F i
 fin : (s = none /\ k = S.ex.length) \/ (k < S.ex.length /\ AH P S F k < P.lo /\ s = some ((k : Int),P.lo - AH P S F k))
theorem Run.uniq {k' : Nat} {s s' : Option (Int × Int)} (h : Run P S F k s) (h' : Run P S F k' s') : k = k' /\ s = s' := by
 have e : k = k' := by
  rcases Nat.lt_trichotomy k k' with c | c | c
  ·have := h'.up k c
   rcases h.fin with ⟨_,z⟩ | ⟨_,z,_⟩
   ·have := h'.le; omega
   ·omega
  ·exact c
  ·have := h.up k' c
   rcases h'.fin with ⟨_,z⟩ | ⟨_,z,_⟩
   ·have := h.le; omega
   ·omega
 subst e
 refine ⟨rfl,?_⟩
 rcases h.fin with ⟨a,b⟩ | ⟨a,b,c⟩ <;> rcases h'.fin with ⟨a',b'⟩ | ⟨a',b',c'⟩
 ·rw [a,a']
 ·omega
 ·omega
 ·rw [c,c']
theorem D9 {r : List Int} (h : F[i]? = some r) : made F i = r.sum := by unfold made; rw [List.getD_eq_getElem?_getD,h]; rfl
theorem Ea {d : Int} (h : (draws P S)[i]? = some d) : BR P S i = d := by unfold BR; rw [List.getD_eq_getElem?_getD,h]; rfl
end MF
end
section
namespace MF
open PySem PySem.Spec PyProof.Rows L2
end MF
end
section
namespace L2
open PySem PySem.Spec PyProof.Rows
theorem NY (l : Addr) (items : Array Value) (n : Nat) (dd : Option Addr) (sl : Array (Option Value)) (u : Tok) :
  Meets (Builtin.«tuple.__mul__» ⟨[.ref l,.int 1 u],[]⟩) (fun _ R s => s.heap.get? l = some { cls := .type "tuple",dict := dd,data := .seq items n,slots := sl } /\ R (.ok (.ret (Value.ref l))) s) :=
 .of_wp fun prog w A R s h => by
  obtain ⟨hp,g,d,tk,os⟩ := s; obtain ⟨hl,h⟩ := h; have f1 := AutoSeq1.idx_int; have f2 := AutoSeq1.sub_tuple_tuple
  have ht : IsTup hp l items := ⟨_,hl,rfl,n,rfl⟩
  wp_walk using wpAny_loadPart' hl
  exact ⟨_,rfl,h⟩
section
variable {X : Cx}
def NZ : R2 := fun x y H Q => ∃ a k xs,x = .ref a /\ y = .int k /\ H a = some (.tup xs) /\ xs ≠ [] /\ 1 <= k /\ k <= 100 /\ xs.length <= 100 /\ D7 H (List.replicate k.toNat xs).flatten Q
theorem N0 : OpR X (binaryOp .Mult) NZ := by
 intro pins s σ H x y v u Q I rx ry h
 obtain ⟨a,k,xs,rfl,rfl,ha,hx,h1,h2,h3,q⟩ := h
 by_cases hk : k = 1
 ·subst hk
  cases rx
  obtain ⟨t,rfl⟩ := ry
  obtain ⟨its,r,ht,hz⟩ := I.tuple (Ac.of ha)
  obtain ⟨⟨cls,dd,data,sl⟩,ho,hc,n,hd⟩ := id ht; simp only at hc hd; subst hc hd
  refine wpAny_binaryOp_repeat_ref (T := "tuple") (U := "int") (by decide) ⟨_,ho,rfl⟩ (fun s' => typeIs_int s' 1 t) JD F.fills_int_mul F.slot_int_rmul JE F.slot_int_index.lookup
   (call_meets F.slot_int_rmul (typeIs_int s 1 t) F.entry_int_rmul (F.args_int_rmul_2 _ _) (JF 1 t a its.toArray n dd sl) ⟨ho,rfl,⟨_,ho,rfl⟩,?_⟩)
  refine call_meets F.slot_tuple_mul ⟨_,ho,rfl⟩ F.entry_tuple_mul (F.args_tuple_mul_2 _ _) (NY a its.toArray n dd sl t) ⟨ho,?_⟩
  refine ⟨.ref a,H,I,rfl,q a H (Ab.refl _) ?_⟩
  rw [ha]
  simp
 ·exact NF pins s σ H _ _ v u Q I rx ry ⟨a,k,xs,rfl,rfl,ha,hx,by omega,h2,h3,q⟩
end
end L2
end
section
namespace L2
open PySem PySem.Spec PyProof.Rows
variable {sc : Scope}
section
variable {X : Cx}
def FR (sc : Scope) (x : Str) : Bool := match sc.names.lookup x with | some .local => true | some .cell => true | some .free => true | _ => false
def FS (sc : Scope) (x : Str) : Bool := match sc.names.lookup x with | some .local => true | some .cell => true | _ => false
def FU (sc : Scope) (x : Str) : Bool := match sc.names.lookup x with | some .local => true | _ => false
theorem N1 {x : Str} (h : FR sc x = true) : DU sc x := by
 unfold FR at h
 split at h
 ·exact .inl (by assumption)
 ·exact .inr (.inl (by assumption))
 ·exact .inr (.inr (by assumption))
 ·cases h
theorem Aw {x : Str} (h : FS sc x = true) : De sc x := by
 unfold FS at h
 split at h
 ·exact .inl (by assumption)
 ·exact .inr (by assumption)
 ·cases h
theorem N3 {f : Bool} {x : Str} (h : (f || FU sc x) = true) : f = true \/ sc.names.lookup x = some .local := by
 rcases Bool.or_eq_true_iff.mp h with h | h
 ·exact .inl h
 ·unfold FU at h
  split at h
  ·exact .inr (by assumption)
  ·cases h
theorem cw (i : Nat) {x : Str} {pos : Pos} (hN : X.N[i]? = some x) (hv : FR X.env.scope x = true) (hd : (x == ("__debug__" : Str) || x == ("__classdict__" : Str)) = false) : PE X (.Name x pos) (EK i) :=
 cv i hN (N1 hv) (Bool.or_eq_false_iff.mp hd).1 (Bool.or_eq_false_iff.mp hd).2
theorem N4 {x : Str} {pos : Pos} (i : Nat) (hN : X.N.Nodup) (hi : X.N[i]? = some x) (hx : FS X.env.scope x = true) (hf : (X.fn x || FU X.env.scope x) = true) : PG X (.Name x pos) (Di i) := LE hN hi (Aw hx) (N3 hf)
def JN (X : Cx) (i : Nat) (x : Str) : Bool := X.N[i]? == some x && (FR X.env.scope x && !(x == ("__debug__" : Str) || x == ("__classdict__" : Str)))
theorem cx (i : Nat) {x : Str} {pos : Pos} (h : JN X i x = true) : PE X (.Name x pos) (EK i) := by
 obtain ⟨h1,h2⟩ := Bool.and_eq_true_iff.mp h
 obtain ⟨h2,h3⟩ := Bool.and_eq_true_iff.mp h2
 exact cw i (eq_of_beq h1) h2 (by simpa using h3)
def JO (X : Cx) (i : Nat) (x : Str) : Bool := X.N[i]? == some x && (FS X.env.scope x && (X.fn x || FU X.env.scope x))
theorem N5 {x : Str} {pos : Pos} (i : Nat) (hN : X.N.Nodup) (h : JO X i x = true) : PG X (.Name x pos) (Di i) := by
 obtain ⟨h1,h2⟩ := Bool.and_eq_true_iff.mp h
 obtain ⟨h2,h3⟩ := Bool.and_eq_true_iff.mp h2
 exact N4 i hN (eq_of_beq h1) h2 h3
theorem AG {l : List Str} (h : decide l.Nodup = true) : l.Nodup := of_decide_eq_true h
def nS : Expr -> Bool | .Starred _ _ => false | _ => true
theorem FV {e : Expr} {es : List Expr} {env : Env} (h : nS e = true) : starEach (e :: es) env = (false,eval e env) :: starEach es env := by
 cases e <;> first | rfl | exact absurd h Bool.false_ne_true
section
variable {e1 e2 e3 e4 : Expr} {t1 t2 t3 t4 : TE}
theorem JP (h1 : PE X e1 t1) (hs : nS e1 = true) : PA X [e1] (Bi t1 CH) := Fp h1 Ch (FV hs)
theorem JQ (h1 : PE X e1 t1) (h2 : PE X e2 t2) (hs : (nS e1 && nS e2) = true) : PA X [e1,e2] (Bi t1 (Bi t2 CH)) := Fp h1 (JP h2 (Bool.and_eq_true_iff.mp hs).2) (FV (Bool.and_eq_true_iff.mp hs).1)
theorem JR (h1 : PE X e1 t1) (h2 : PE X e2 t2) (h3 : PE X e3 t3) (hs : (nS e1 && (nS e2 && nS e3)) = true) : PA X [e1,e2,e3] (Bi t1 (Bi t2 (Bi t3 CH))) := Fp h1 (JQ h2 h3 (Bool.and_eq_true_iff.mp hs).2) (FV (Bool.and_eq_true_iff.mp hs).1)
theorem N6 (h1 : PE X e1 t1) (h2 : PE X e2 t2) (h3 : PE X e3 t3) (h4 : PE X e4 t4) (hs : (nS e1 && (nS e2 && (nS e3 && nS e4))) = true) : PA X [e1,e2,e3,e4] (Bi t1 (Bi t2 (Bi t3 (Bi t4 CH)))) := Fp h1 (JR h2 h3 h4 (Bool.and_eq_true_iff.mp hs).2) (FV (Bool.and_eq_true_iff.mp hs).1)
end
end
end L2
end
section
namespace L2
open PySem PySem.Spec PyProof.Rows
section
variable {X : Cx}
theorem cy (i : Nat) {x : Str} {pos : Pos} (h : JN X i x = true := by rfl) : PE X (.Name x pos) (EK i) := cx i h
theorem Af {x : Str} {pos : Pos} (i : Nat) (hN : X.N.Nodup) (h : JO X i x = true := by rfl) : PG X (.Name x pos) (Di i) := N5 i hN h
section
variable {e1 e2 e3 e4 : Expr} {t1 t2 t3 t4 : TE}
theorem Al (h1 : PE X e1 t1) (hs : nS e1 = true := by rfl) : PA X [e1] (Bi t1 CH) := JP h1 hs
theorem Ap (h1 : PE X e1 t1) (h2 : PE X e2 t2) (hs : (nS e1 && nS e2) = true := by rfl) : PA X [e1,e2] (Bi t1 (Bi t2 CH)) := JQ h1 h2 hs
theorem AD (h1 : PE X e1 t1) (h2 : PE X e2 t2) (h3 : PE X e3 t3) (hs : (nS e1 && (nS e2 && nS e3)) = true := by rfl) : PA X [e1,e2,e3] (Bi t1 (Bi t2 (Bi t3 CH))) := JR h1 h2 h3 hs
theorem Bl (h1 : PE X e1 t1) (h2 : PE X e2 t2) (h3 : PE X e3 t3) (h4 : PE X e4 t4) (hs : (nS e1 && (nS e2 && (nS e3 && nS e4))) = true := by rfl) : PA X [e1,e2,e3,e4] (Bi t1 (Bi t2 (Bi t3 (Bi t4 CH)))) := N6 h1 h2 h3 h4 hs
end
end
end L2
end
section
namespace L2
open PySem PySem.Spec PyProof.Rows
section
variable {X : Cx}
end
end L2
namespace MF
open PySem PySem.Spec PyProof.Rows L2
end MF
end
section
namespace L2
open PySem PySem.Spec PyProof.Rows
abbrev Ds (elt tg1 it1 : Expr) (ifs1 : List Expr) (tg2 it2 : Expr) (ifs2 : List Expr) (scope : Scope) (pos : Pos) : Expr := .ListComp elt [⟨tg1,it1,ifs1,0⟩,⟨tg2,it2,ifs2,0⟩] scope pos
section
variable {prog : Program} {w : World} {A : Around} {R : Result -> Shared -> Prop} {s : Shared} {elt tg1 it1 tg2 it2 : Expr} {ifs1 ifs2 : List Expr} {scope : Scope} {pos : Pos} {it acc : Value} {env : Env}
theorem N7 (h0 : codeAny (model prog w) A (.compLoop (Ds elt tg1 it1 ifs1 tg2 it2 ifs2 scope pos) 1 it acc env) R s)
  (h : wpAny (model prog w) A (pyIter it) (fun it' s' => codeAny (model prog w) A (.compLoop (Ds elt tg1 it1 ifs1 tg2 it2 ifs2 scope pos) 1 it' acc env) R s') (notedBy (model prog w) A env fun x s' => R (.error x) s') s) :
  codeAny (model prog w) A (.compStart (Ds elt tg1 it1 ifs1 tg2 it2 ifs2 scope pos) 1 it acc env) R s := by
 refine codeAny_of_tree (id (wpAny_notedAt (id (id (wpAny_bind (wpAny_askSetting (wpAny_ite ?_)))))))
 split
 ·exact wpAny_bind (wpAny_pure (wpAny_pure ⟨rfl,h0⟩))
 ·exact wpAny_bind (wpAny_rule (wpAny_bind (wpAny_standAt (wpAny_bind (wpAny_mono h (fun it' s' h' => wpAny_pure ⟨rfl,h'⟩) fun _ _ z => z)))))
end
def FW (wi2 : TI) (g2 : TG) (tt2 : TT) (te : TE) : St -> List V -> Hp -> (List V -> Hp -> Prop) -> Prop := fun σ ys H N => wi2 σ H fun J H1 =>
 ∃ W : Nat -> Nat -> List V -> Hp -> Prop,(∃ m,W 0 m ys H1) /\ ∀ j m zs H,W j m zs H ->
  (J.stop j H /\ N zs H) \/
  (J.go j H /\ zs.length < sizeLine /\ ∃ N2 : List V -> Hp -> Prop, (∀ zs' H', N2 zs' H' -> ∃ m', m' < m /\ W (j + 1) m' zs' H') /\ ∀ x H', J.yld j H x H' -> g2 x σ H' fun σ3 H2 => Keep σ σ3 /\ tt2 σ3 H2 fun b H3 =>
   br b (te σ3 H3 fun y H4 => N2 (zs ++ [y]) H4) (N2 zs H3))
def HF (wi : TI) (cap : List (Option Nat)) (g : TG) (tt : TT) (wi2 : TI) (g2 : TG) (tt2 : TT) (te : TE) : St -> Hp -> (List V -> Hp -> Prop) -> Prop := fun σ H Q => wi σ H fun J H1 =>
 ∃ W : Nat -> Nat -> List V -> Hp -> Prop,(∃ m,W 0 m [] H1) /\ ∀ i m ys H,W i m ys H ->
  (J.stop i H /\ Q ys H) \/
  (J.go i H /\ ∃ N : List V -> Hp -> Prop, (∀ ys' H', N ys' H' -> ∃ m', m' < m /\ W (i + 1) m' ys' H') /\ ∀ x H', J.yld i H x H' -> g x (AM cap σ) H' fun σ2 H2 => Keep (AM cap σ) σ2 /\ tt σ2 H2 fun b H3 =>
   br b (FW wi2 g2 tt2 te σ2 ys H3 N) (N ys H3))
theorem JS {X : Cx} {tg iter tg2 iter2 elt : Expr} {ifs ifs2 : List Expr} {scope : Scope} {pos pos' : Pos} {wi wi2 : TI} {g g2 : TG} {tt tt2 : TT} {te : TE} {N' : List Str} {cap : List (Option Nat)} {use : Option (Value -> Sem Unit)} {Q' : Value -> Shared -> Prop}
  {pins : List (Addr × Obj)} {s : Shared} {σ : St} {H : Hp} {Q : List V -> Hp -> Prop}
  (hc : X.calm = true) (hi : PI X tg iter wi) (B : AJ X.env.scope X.N scope N' cap) (hg : ∀ s H ex C,PG (AI X N' scope s H ex C) tg g) (ht : ∀ s H ex C,Bz (AI X N' scope s H ex C) ifs tt)
  (hi2 : ∀ s H ex C,PI (AI X N' scope s H ex C) tg2 iter2 wi2) (hg2 : ∀ s H ex C,PG (AI X N' scope s H ex C) tg2 g2) (ht2 : ∀ s H ex C,Bz (AI X N' scope s H ex C) ifs2 tt2) (he : ∀ s H ex C,PE (AI X N' scope s H ex C) elt te)
  (hs : ∀ x,foldedSetIterable iter X.env x = pure x) (hs2 : ∀ env x,foldedSetIterable iter2 env x = pure x) (I : Ae X pins σ H s) (h : HF wi cap g tt wi2 g2 tt2 te σ H Q)
  (fin : ∀ (acc C : Addr) (H : Hp) (ys : List V) (s' : Shared),H acc = none -> Ae X pins σ (upd H acc (.lst ys)) s' -> Fw X pins C (upd H acc (.lst ys)) s' -> Q ys H -> compPost (model X.prog X.w) X.A X.xe use Q' (.ref acc) C (.ok .next) s') :
  wpAny (model X.prog X.w) X.A (comprehension (Ds elt tg iter ifs tg2 iter2 ifs2 scope pos) scope X.env pos' (newList []) false (eval iter X.env) use) Q' X.xe s :=
 Js MY (body := fun itv acc env => Ht (Ds elt tg iter ifs tg2 iter2 ifs2 scope pos) 0 iter2 itv acc env) (Bt := Jr Jo wi2 g2 tt2 (Hu te)) (Cd := fun _ => True) hc hi B hg ht (fun _ _ _ => rfl)
  (fun s H ex C a A => MZ (body := fun itv => Fx (Ds elt tg iter ifs tg2 iter2 ifs2 scope pos) 1 elt itv (.ref a) _) A rfl (hs2 _) (fun _ => rfl) N7 (hi2 s H ex C) (hg2 s H ex C) (ht2 s H ex C) (Jq A rfl (he s H ex C)) fun _ _ z => z) (fun _ _ z => ⟨trivial,z⟩) hs I h fin
def N8 (wi : TI) (cap : List (Option Nat)) (g : TG) (tt : TT) (wi2 : TI) (g2 : TG) (tt2 : TT) (te : TE) : TE := fun σ H Q => HF wi cap g tt wi2 g2 tt2 te σ H fun ys H' => ∀ p,H' p = none -> Q (.ref p) (upd H' p (.lst ys))
theorem N9 {X : Cx} {tg iter tg2 iter2 elt : Expr} {ifs ifs2 : List Expr} {scope : Scope} {pos : Pos} {wi wi2 : TI} {g g2 : TG} {tt tt2 : TT} {te : TE} (N' : List Str) (cap : List (Option Nat))
  (hc : X.calm = true) (hi : PI X tg iter wi) (B : AJ X.env.scope X.N scope N' cap) (hg : ∀ s H ex C,PG (AI X N' scope s H ex C) tg g) (ht : ∀ s H ex C,Bz (AI X N' scope s H ex C) ifs tt)
  (hi2 : ∀ s H ex C,PI (AI X N' scope s H ex C) tg2 iter2 wi2) (hg2 : ∀ s H ex C,PG (AI X N' scope s H ex C) tg2 g2) (ht2 : ∀ s H ex C,Bz (AI X N' scope s H ex C) ifs2 tt2) (he : ∀ s H ex C,PE (AI X N' scope s H ex C) elt te)
  (hs : ∀ x,foldedSetIterable iter X.env x = pure x := by intro _; rfl) (hs2 : ∀ env x,foldedSetIterable iter2 env x = pure x := by intro _ _; rfl) : PE X (.ListComp elt [⟨tg,iter,ifs,0⟩,⟨tg2,iter2,ifs2,0⟩] scope pos) (N8 wi cap g tt wi2 g2 tt2 te) := by
 intro pins s σ H Q I h
 rw [eval_ListComp]
 refine JS (use := none) hc hi B hg ht hi2 hg2 ht2 he hs hs2 I h fun acc C H ys s' hn I' L q => ?_
 obtain ⟨m,hm⟩ := L.ns
 refine ⟨m,hm,fun h' hsb => ⟨.ref acc,_,I'.turned (t' := s'.toks) (it := C) (fun b o hb e => hsb.extBut b o hb e) L.free L.loc (.inr L.sz) L.cell L.pin,rfl,q acc hn⟩⟩
end L2
end
section
namespace L2
open PySem PySem.Spec PyProof.Rows
section
variable {X : Cx}
end
def JT (J : It) (g2 : TG) (tt2 : TT) (te : TE) (σ : St) (ys : List V) (N : List V -> Hp -> Prop) (H1 : Hp) : Prop :=
 ∃ W : Nat -> Nat -> List V -> Hp -> Prop,(∃ m,W 0 m ys H1) /\ ∀ j m zs H,W j m zs H ->
  (J.stop j H /\ N zs H) \/
  (J.go j H /\ zs.length < sizeLine /\ ∃ N2 : List V -> Hp -> Prop, (∀ zs' H', N2 zs' H' -> ∃ m', m' < m /\ W (j + 1) m' zs' H') /\ ∀ x H', J.yld j H x H' -> g2 x σ H' fun σ3 H2 => Keep σ σ3 /\ tt2 σ3 H2 fun b H3 =>
   br b (te σ3 H3 fun y H4 => N2 (zs ++ [y]) H4) (N2 zs H3))
theorem Oa {P : Program} {w : World} {K : PySem.W.Frag} {S : Ba P w K} {a : Addr} {xs : List V} {g : TG} {tt : TT} {te : TE} {σ : St} {ys : List V} {Q : List V -> Hp -> Prop} {H : Hp} (Pv : Nat -> List V -> Hp -> Prop) (h0 : Pv 0 ys H) (hz : ∀ i zs H,Pv i zs H -> zs.length < 100000)
  (hl : ∀ i zs H,Pv i zs H -> S.Sq H a xs)
  (hs : ∀ i x zs H T,xs[i]? = some x -> Pv i zs H -> H T = none -> g (.ref T) σ (upd H T (.tup [.int i,x])) fun σ2 H2 => Keep σ σ2 /\ tt σ2 H2 fun b H3 => br b (te σ2 H3 fun y H4 => Pv (i + 1) (zs ++ [y]) H4) (Pv (i + 1) zs H3))
  (hd : ∀ zs H,Pv xs.length zs H -> Q zs H) : JT (DG S a) g tt te σ ys Q H := by
 refine ⟨fun i m zs H => m = xs.length - i /\ i <= xs.length /\ Pv i zs H,⟨xs.length,by simp,Nat.zero_le _,h0⟩,?_⟩
 rintro i m zs H ⟨rfl,hi,p⟩
 have q := hl i zs H p
 by_cases hlt : i < xs.length
 ·refine .inr ⟨⟨xs,xs[i],q,by simp [hlt]⟩,Nat.lt_trans (hz i zs H p) (by decide),Pv (i + 1),fun zs' H' p' => ⟨xs.length - (i + 1),by omega,rfl,hlt,p'⟩,fun v H' ⟨T,e,n,y⟩ => ?_⟩
  subst e
  rw [y xs xs[i] q (by simp [hlt])]
  exact hs i xs[i] zs H T (by simp [hlt]) p n
 ·obtain rfl : i = xs.length := by omega
  exact .inl ⟨⟨xs,q,rfl⟩,hd zs H p⟩
def Ob (J : It) (cap : List (Option Nat)) (g : TG) (tt : TT) (wi2 : TI) (g2 : TG) (tt2 : TT) (te : TE) (σ : St) (Q : List V -> Hp -> Prop) (H1 : Hp) : Prop :=
 ∃ W : Nat -> Nat -> List V -> Hp -> Prop,(∃ m,W 0 m [] H1) /\ ∀ i m ys H,W i m ys H ->
  (J.stop i H /\ Q ys H) \/
  (J.go i H /\ ∃ N : List V -> Hp -> Prop, (∀ ys' H', N ys' H' -> ∃ m', m' < m /\ W (i + 1) m' ys' H') /\ ∀ x H', J.yld i H x H' -> g x (AM cap σ) H' fun σ2 H2 => Keep (AM cap σ) σ2 /\ tt σ2 H2 fun b H3 =>
   br b (FW wi2 g2 tt2 te σ2 ys H3 N) (N ys H3))
end L2
namespace MF
open PySem PySem.Spec PyProof.Rows L2
def B1 (P : PL) (F : List (List Int)) : List Int := (List.range P.bs.length).map fun b => (F.map fun r => r.getD b 0).sum
def coal (P : PL) (F : List (List Int)) : Int := (((B1 P F).zip P.bs).map fun q => q.1 * q.2.2).sum
end MF
end
section
namespace MF
open PySem PySem.Spec PyProof.Rows L2
abbrev Lt (d : PyData) : List Nat := d.shown.cps.toList
end MF
end
section
namespace L2
open PySem PySem.Spec PyProof.Rows
theorem JU {P : Program} {w : World} {K : PySem.W.Frag} {S1 S2 : Ba P w K} {a b : Addr} {xs ys : List V} {g : TG} {tb : TS} {D : Cq} {σ : St} {H : Hp} (Pv : Nat -> St -> Hp -> Prop) (he : xs.length = ys.length) (h0 : Pv 0 σ H) (hl : ∀ i σ H,Pv i σ H -> S1.Sq H a xs /\ S2.Sq H b ys)
  (hs : ∀ i x y σ H T,xs[i]? = some x -> ys[i]? = some y -> Pv i σ H -> H T = none -> g (.ref T) σ (upd H T (.tup [x,y])) fun σ2 H2 => tb { D with nx := Pv (i + 1),ct := Pv (i + 1),bk := D.nx } σ2 H2) (hd : ∀ σ H,Pv xs.length σ H -> D.nx σ H) :
  ∃ W : Nat -> Nat -> St -> Hp -> Prop,(∃ m,W 0 m σ H) /\ ∀ i m σ H,W i m σ H ->
   ((DH S1 S2 a b).stop i H /\ D.nx σ H) \/ ((DH S1 S2 a b).go i H /\ ∃ N : St -> Hp -> Prop,(∀ σ' H',N σ' H' -> ∃ m',m' < m /\ W (i + 1) m' σ' H') /\ ∀ x H',(DH S1 S2 a b).yld i H x H' -> g x σ H' fun σ2 H2 => tb { D with nx := N,ct := N,bk := D.nx } σ2 H2) := by
 refine ⟨fun i m σ H => m = xs.length - i /\ i <= xs.length /\ Pv i σ H,⟨xs.length,by simp,Nat.zero_le _,h0⟩,?_⟩
 rintro i m σ H ⟨rfl,hi,p⟩
 obtain ⟨q1,q2⟩ := hl i σ H p
 by_cases hlt : i < xs.length
 ·have hy : i < ys.length := by omega
  refine .inr ⟨⟨xs,ys,xs[i],ys[i],q1,q2,by simp [hlt],by simp [hy]⟩,Pv (i + 1),fun σ' H' p' => ⟨xs.length - (i + 1),by omega,rfl,hlt,p'⟩,fun v H' ⟨T,e,n,y⟩ => ?_⟩
  subst e
  rw [y xs ys xs[i] ys[i] q1 q2 (by simp [hlt]) (by simp [hy])]
  exact hs i xs[i] ys[i] σ H T (by simp [hlt]) (by simp [hy]) p n
 ·obtain rfl : i = xs.length := by omega
  exact .inl ⟨⟨xs,ys,q1,q2,rfl⟩,hd σ H p⟩
section
variable {X : Cx}
theorem Oc (hu : X.A.units < cLine) : OpR X (compareOp .NotEq) (fun x y H Q => ∃ (a b : Addr) (xs : List V),x = .ref a /\ y = .ref b /\ H a = some (.lst xs) /\ H b = some (.lst []) /\ Q (.bl (!xs.isEmpty)) H) := by
 intro pins s σ H x y v u Q I rx ry h
 obtain ⟨a,b,xs,rfl,rfl,ha,hb,q⟩ := h
 cases rx; cases ry
 obtain ⟨its,r1,p1,_⟩ := I.list (An.of ha)
 obtain ⟨its2,r2,p2,_⟩ := I.list (An.of hb)
 cases r2
 cases r1 with
 | nil => exact SeqAt.RcNeAt.lists (e := fun _ => true) p1.isList p2.isList (by simp) hu (fun j h1 h2 => absurd h1 (by simp)) _ _ _ _ (AS I q (by rfl))
 | cons r t => exact SeqAt.RcNeAt.lists_lengths p1.isList p2.isList (by simp) hu _ _ _ _ (AS I q (by rfl))
end
end L2
namespace MF
open PySem PySem.Spec PyProof.Rows L2
end MF
namespace L2
open PySem PySem.Spec PyProof.Rows
section
variable {X : Cx}
end
end L2
end
section
namespace L2
open PySem PySem.Spec PyProof.Rows
variable {n : Nat} {g g2 : TG} {tt tt2 : TT} {te : TE} {σ : St} {Q : List V -> Hp -> Prop} {H : Hp} {wi2 : TI}
theorem Od {lo : Int} {ys : List V} (Pv : Nat -> List V -> Hp -> Prop) (h0 : Pv 0 ys H) (hz : ∀ i zs H,Pv i zs H -> zs.length < 100000)
  (hs : ∀ i zs H,i < n -> Pv i zs H -> g (.int (lo + i)) σ H fun σ2 H2 => Keep σ σ2 /\ tt σ2 H2 fun b H3 => br b (te σ2 H3 fun y H4 => Pv (i + 1) (zs ++ [y]) H4) (Pv (i + 1) zs H3))
  (hd : ∀ zs H,Pv n zs H -> Q zs H) : JT (CD lo n) g tt te σ ys Q H := by
 refine ⟨fun i m zs H => m = n - i /\ i <= n /\ Pv i zs H,⟨n,by simp,Nat.zero_le _,h0⟩,?_⟩
 rintro i m zs H ⟨rfl,hi,p⟩
 by_cases hlt : i < n
 ·refine .inr ⟨hlt,Nat.lt_trans (hz i zs H p) (by decide),Pv (i + 1),fun zs' H' p' => ⟨n - (i + 1),by omega,rfl,hlt,p'⟩,fun v H' ⟨e,y⟩ => ?_⟩
  subst e y
  exact hs i zs _ hlt p
 ·obtain rfl : i = n := by omega
  exact .inl ⟨Nat.le_refl _,hd zs H p⟩
theorem JV {lo : Int} {cap : List (Option Nat)} (Pv : Nat -> List V -> Hp -> Prop) (h0 : Pv 0 [] H)
  (hs : ∀ i zs H,i < n -> Pv i zs H -> g (.int (lo + i)) (AM cap σ) H fun σ2 H2 => Keep (AM cap σ) σ2 /\ tt σ2 H2 fun b H3 => br b (FW wi2 g2 tt2 te σ2 zs H3 (Pv (i + 1))) (Pv (i + 1) zs H3))
  (hd : ∀ zs H,Pv n zs H -> Q zs H) : Ob (CD lo n) cap g tt wi2 g2 tt2 te σ Q H := by
 refine ⟨fun i m zs H => m = n - i /\ i <= n /\ Pv i zs H,⟨n,by simp,Nat.zero_le _,h0⟩,?_⟩
 rintro i m zs H ⟨rfl,hi,p⟩
 by_cases hlt : i < n
 ·refine .inr ⟨hlt,Pv (i + 1),fun zs' H' p' => ⟨n - (i + 1),by omega,rfl,hlt,p'⟩,fun v H' ⟨e,y⟩ => ?_⟩
  subst e y
  exact hs i zs _ hlt p
 ·obtain rfl : i = n := by omega
  exact .inl ⟨Nat.le_refl _,hd zs H p⟩
def Oe (i : Nat) (wi : TI) (cap : List (Option Nat)) (g : TG) (tt : TT) (wi2 : TI) (g2 : TG) (tt2 : TT) (te : TE) : TS := fun D σ H => HF wi cap g tt wi2 g2 tt2 te σ H fun ys H' => ∀ p,H' p = none -> D.nx (σ.set i (some (.ref p))) (upd H' p (.lst ys))
theorem Of {X : Cx} {i : Nat} {y : Str} {tg iter tg2 iter2 elt : Expr} {ifs ifs2 : List Expr} {scope : Scope} {pos pos' pos'' : Pos} {wi : TI} (N' : List Str) (cap : List (Option Nat)) (hN : X.N.Nodup) (hin : X.N[i]? = some y) (hy : De X.env.scope y)
  (hc : X.calm = true) (hi : PI X tg iter wi) (B : AJ X.env.scope X.N scope N' cap) (hg : ∀ s H ex C,PG (AI X N' scope s H ex C) tg g) (ht : ∀ s H ex C,Bz (AI X N' scope s H ex C) ifs tt)
  (hi2 : ∀ s H ex C,PI (AI X N' scope s H ex C) tg2 iter2 wi2) (hg2 : ∀ s H ex C,PG (AI X N' scope s H ex C) tg2 g2) (ht2 : ∀ s H ex C,Bz (AI X N' scope s H ex C) ifs2 tt2) (he : ∀ s H ex C,PE (AI X N' scope s H ex C) elt te)
  (hsw : swapsWith (Ds elt tg iter ifs tg2 iter2 ifs2 scope pos) (some (.Name y pos')) pos''.line X.env = pure true := by rfl)
  (hf : X.fn y = true \/ X.env.scope.names.lookup y = some .local := by first | exact .inl rfl | exact .inr rfl | assumption)
  (hs : ∀ x,foldedSetIterable iter X.env x = pure x := by intro _; rfl) (hs2 : ∀ env x,foldedSetIterable iter2 env x = pure x := by intro _ _; rfl) : PS X (.Assign [.Name y pos'] (.ListComp elt [⟨tg,iter,ifs,0⟩,⟨tg2,iter2,ifs2,0⟩] scope pos) pos'') (Oe i wi cap g tt wi2 g2 tt2 te) := by
 intro pins s σ H D I h
 rw [exec_Assign_Name_used _ _ _ _ hsw]
 refine wpAny_bind (wpAny_standAt (wpAny_bind ?_))
 show wpAny _ X.A (do let _ <- comprehension (Ds elt tg iter ifs tg2 iter2 ifs2 scope pos) scope X.env _ (newList []) false (eval iter X.env) (some (assign (.Name y pos') X.env))) _ _ s
 refine wpAny_bind (wpAny_mono (JS (use := some (assign (.Name y pos') X.env)) (Q' := fun _ s' => SP X pins D .next s') hc hi B hg ht hi2 hg2 ht2 he hs hs2 I h fun acc C H ys s' hn I' L q => ?_) (fun _ s' hq => wpAny_pure (wpAny_pure hq)) fun _ _ e => e)
 obtain ⟨m,hm⟩ := L.ns
 refine wpAny_assign_Name (G3 I' hN hin hy (show AA (.ref acc) (.ref acc) from rfl) (fun s'' I'' ⟨a,sb,ha⟩ => ?_) hf)
 have hCa : C ≠ a := by
  rcases ha with e | e
  ·rw [e]; exact L.loc
  ·exact fun z => L.cell _ _ e z.symm
 refine ⟨m,hm.sameBut sb hCa,fun h' hsb => ?_⟩
 exact ⟨_,_,I''.turned (t' := s''.toks) (it := C) (fun b o hb e => hsb.extBut b o hb e) L.free L.loc (.inr L.sz) L.cell L.pin,q acc hn⟩
def Og (te : TE) : TT := fun σ H Q => te σ H fun x H' => ∃ a xs,x = .ref a /\ H' a = some (.lst xs) /\ Q (!xs.isEmpty) H'
theorem Oh {X : Cx} {a : Expr} {ta : TE} (ha : PE X a ta) (he : ∀ whole,isTrue a X.env whole = (do let v <- whole; standAt a.pos; holding [v] (truthy v)) := by intro _; rfl) : PT X a (Og ta) := by
 intro pins s σ H Q I h
 refine isTrue_plain (Ao (ha pins s σ H _ I h) fun v s1 ⟨x,H1,I1,r1,q1⟩ => ?_) (he _)
 obtain ⟨b,xs,rfl,hb,q⟩ := q1
 cases r1
 obtain ⟨its,r,pl,hz⟩ := I1.list (An.of hb)
 have hlen := r.length
 have big : sizeLine < 2 ^ 63 := by decide
 exact wpAny_truthy_list pl.isList (by simp only [List.size_toArray]; omega) ⟨H1,I1.tok _,by rw [L6 r]; exact q⟩
section
variable {X : Cx}
end
end L2
namespace MF
open PySem PySem.Spec PyProof.Rows L2
variable {n k : Nat} {α : Type} {xs : List α}
structure TM where
 cs : List (List Int)
 co : List Int
 ds : List Int
 lo : Int
 hi : Int
 st : Int
def TM.d (T : TM) : PyData := .tuple [FD T.cs,AQ T.co,AQ T.ds,.tuple [.int T.lo,.int T.hi,.int T.st]]
def terms (P : PL) (S : SY) : TM := ⟨caps P S,P.bs.map (·.2),draws P S,P.lo,P.hi,P.st⟩
structure TM.ok (T : TM) : Prop where
 l8 : T.ds.length <= 8
 lc : T.cs.length = T.ds.length
theorem JW {P : PL} {S : SY} (so : S.ok n) : (terms P S).ok := ⟨by show (draws P S).length <= 8; rw [draws_len]; exact so.x8,by show (caps P S).length = (draws P S).length; rw [C0,draws_len]⟩
def part {α : Type} (xs : List α) (f l : Nat) : List α := (xs.drop f).take (l + 1 - f)
theorem JX {f l : Nat} (h : f <= l) (hl : l < xs.length) : (part xs f l).length = l + 1 - f := by
 unfold part; rw [List.length_take,List.length_drop]; omega
theorem FX {xs : List V} {f l : Nat} (h : f <= l) (hl : l < xs.length) : A7 xs (some (f : Int)) (some ((l : Int) + 1)) = part xs f l := by
 have e : ((l : Int) + 1) = ((l + 1 : Nat) : Int) := by omega
 unfold A7 part
 rw [e,HT.sIx_nat,HT.sIx_nat,Nat.min_eq_left (by omega),Nat.min_eq_left (by omega)]
theorem Eb {β : Type} {g : α -> β} {f l : Nat} : part (xs.map g) f l = (part xs f l).map g := by
 unfold part; rw [<- List.map_drop,<- List.map_take]
theorem Ad.part {p : Addr} {H : Hp} : ∀ {ds : List PyData} {xs : List V},Ad p H ds xs -> ∀ f l,Ad p H (MF.part ds f l) (MF.part xs f l) := by
 have dr : ∀ {ds : List PyData} {xs : List V},Ad p H ds xs -> ∀ f,Ad p H (ds.drop f) (xs.drop f) := by
  intro ds
  induction ds with
  | nil => intro xs r f; unfold Ad at r; subst r; rw [List.drop_nil,List.drop_nil]; exact .nil
  | cons d ds ih =>
   intro xs r f
   have r' := r
   unfold Ad at r
   obtain ⟨x,t,rfl,rx,rt⟩ := r
   cases f with
   | zero => exact r'
   | succ f => exact ih rt f
 have tk : ∀ {ds : List PyData} {xs : List V},Ad p H ds xs -> ∀ f,Ad p H (ds.take f) (xs.take f) := by
  intro ds
  induction ds with
  | nil => intro xs r f; unfold Ad at r; subst r; rw [List.take_nil,List.take_nil]; exact .nil
  | cons d ds ih =>
   intro xs r f
   unfold Ad at r
   obtain ⟨x,t,rfl,rx,rt⟩ := r
   cases f with
   | zero => exact .nil
   | succ f => exact .cons rx (ih rt f)
 intro ds xs r f l
 exact tk (dr r f) _
def most (T : TM) (f l : Nat) : Int := ((part T.cs f l).map List.sum).sum
def ET (T : TM) (f l : Nat) : Int := (part T.ds f l).sum
def BS (T : TM) (f l : Nat) : Bool := decide ((if f = 0 then T.st else T.hi) + most T f l < ET T f l + T.lo)
def CA (f k : Nat) : List (Nat × Nat) := (List.range k).map fun i => (f,f + i)
def B3 (n k : Nat) : List (Nat × Nat) := ((List.range k).map fun f => CA f (n - f)).flatten
abbrev pD (q : Nat × Nat) : PyData := .tuple [.int q.1,.int q.2]
theorem Oi {f : Nat} : CA f (k + 1) = CA f k ++ [(f,f + k)] := by unfold CA; rw [List.range_succ,List.map_append]; rfl
theorem JY {f : Nat} : (CA f k).length = k := by unfold CA; simp
theorem JZ : B3 n (k + 1) = B3 n k ++ CA k (n - k) := by unfold B3; rw [List.range_succ,List.map_append,List.flatten_append]; simp
theorem J0 : (B3 n k).length <= n * k := by
 induction k with
 | zero => exact Nat.le_refl _
 | succ k ih => rw [JZ,List.length_append,JY,Nat.mul_succ]; omega
theorem J5 (h : k <= n) : ∀ q ∈ B3 n k,q.1 <= q.2 /\ q.2 < n := by
 intro q hq
 unfold B3 at hq
 obtain ⟨l,hl,hq⟩ := List.mem_flatten.mp hq
 obtain ⟨f,hf,rfl⟩ := List.mem_map.mp hl
 obtain ⟨i,hi,rfl⟩ := List.mem_map.mp hq
 have := List.mem_range.mp hf
 have := List.mem_range.mp hi
 exact ⟨by show f <= f + i; omega,by show f + i < n; omega⟩
def Ec (T : TM) : List (Nat × Nat) := (B3 T.ds.length T.ds.length).filter fun q => BS T q.1 q.2
def Bc (T : TM) : Option (Nat × Nat) := (Ec T).head?
def HG : Option (Nat × Nat) -> PyData
 | none => .none
 | some q => pD q
def Bu (T : TM) (f : Nat) : Nat -> Int
 | 0 => if f = 0 then T.st else T.hi
 | k + 1 => Bu T f k + (T.cs.getD (f + k) []).sum - T.ds.getD (f + k) 0
theorem J6 {f : Nat} {x : α} (h : xs[f + k]? = some x) : (xs.drop f).take (k + 1) = (xs.drop f).take k ++ [x] := A3 (by rw [List.getElem?_drop]; exact h)
theorem HH {T : TM} (ok : T.ok) {f : Nat} : ∀ k,f + k <= T.ds.length -> Bu T f k = (if f = 0 then T.st else T.hi) + (((T.cs.drop f).take k).map List.sum).sum - ((T.ds.drop f).take k).sum
 | 0,_ => by rw [List.take_zero,List.take_zero,List.map_nil,List.sum_nil]; show (if f = 0 then T.st else T.hi) = _; omega
 | k + 1,h => by
  have ih := HH ok (f := f) k (by omega)
  have lc := ok.lc
  have h1 : T.cs[f + k]? = some (T.cs.getD (f + k) []) := by rw [List.getD_eq_getElem?_getD,List.getElem?_eq_getElem (by omega)]; rfl
  have h2 : T.ds[f + k]? = some (T.ds.getD (f + k) 0) := NS (by omega)
  rw [J6 h1,J6 h2,List.map_append,List.sum_append,List.sum_append,List.map_cons,List.map_nil,List.sum_cons,List.sum_nil,List.sum_cons,List.sum_nil]
  show Bu T f k + _ - _ = _
  omega
def FY (T : TM) (f l : Nat) : Bool := decide (Bu T f (l + 1 - f) < T.lo)
theorem J7 {T : TM} (ok : T.ok) {f l : Nat} (h : f <= l) (hl : l < T.ds.length) : FY T f l = BS T f l := by
 unfold FY BS most ET part
 rw [HH ok _ (by omega),Bool.eq_iff_iff,decide_eq_true_eq,decide_eq_true_eq]
 omega
end MF
end
section
namespace L2
open PySem PySem.Spec PyProof.Rows
section
variable {X : Cx} {pos : Pos}
end
end L2
end
section
namespace L2
open PySem PySem.Spec PyProof.Rows
section
variable {X : Cx}
end
section
variable {X : Cx}
end
section
variable {X : Cx}
end
end L2
end
section
namespace L2
open PySem PySem.Spec PyProof.Rows
open AutoSeq1 (wpAny_loadPart')
structure ZA3 (z TI TO i1 i2 i3 l1 l2 l3 : Addr) : Prop where
 TI_z : TI ≠ z
 TO_z : TO ≠ z
 TO_TI : TO ≠ TI
 i1_z : i1 ≠ z
 i1_TI : i1 ≠ TI
 i1_TO : i1 ≠ TO
 i2_z : i2 ≠ z
 i2_TI : i2 ≠ TI
 i2_TO : i2 ≠ TO
 i2_i1 : i2 ≠ i1
 i3_z : i3 ≠ z
 i3_TI : i3 ≠ TI
 i3_TO : i3 ≠ TO
 i3_i1 : i3 ≠ i1
 i3_i2 : i3 ≠ i2
 l1_z : l1 ≠ z
 l1_TO : l1 ≠ TO
 l1_i1 : l1 ≠ i1
 l1_i2 : l1 ≠ i2
 l1_i3 : l1 ≠ i3
 l2_z : l2 ≠ z
 l2_TO : l2 ≠ TO
 l2_i1 : l2 ≠ i1
 l2_i2 : l2 ≠ i2
 l2_i3 : l2 ≠ i3
 l3_z : l3 ≠ z
 l3_TO : l3 ≠ TO
 l3_i1 : l3 ≠ i1
 l3_i2 : l3 ≠ i2
 l3_i3 : l3 ≠ i3
section
variable {P : Program} {w : World} {K : PySem.W.Frag} {A : Around} {E : Value -> Shared -> Prop} {s : Shared} (S1 S2 S3 : Ba P w K)
end
end L2
end
section
namespace L2
open PySem PySem.Spec PyProof.Rows
open AutoSeq1 (wpAny_loadPart')
end L2
end
section
namespace L2
open PySem PySem.Spec PyProof.Rows
section
variable {X : Cx}
def Oj (a b : TI) : TI := fun σ H R => a σ H R \/ b σ H R
theorem Ol {tg it : Expr} {a b : TI} (ha : PI X tg it a) (hb : PI X tg it b) : PI X tg it (Oj a b) := fun pins s σ H R I h => h.elim (fun q => ha pins s σ H R I q) fun q => hb pins s σ H R I q
end
section
variable {X : Cx}
end
section
variable {prog : Program} {w : World} {A : Around} {R : Result -> Shared -> Prop} {s : Shared} {elt tg1 it1 tg2 it2 tg3 it3 : Expr} {ifs1 ifs2 ifs3 : List Expr} {scope : Scope} {pos : Pos} {it acc : Value} {env : Env}
end
def Om (wi2 : TI) (g2 : TG) (tt2 : TT) (wi3 : TI) (g3 : TG) (tt3 : TT) (te : TE) : St -> List V -> Hp -> (List V -> Hp -> Prop) -> Prop := fun σ ys H N => wi2 σ H fun J H1 =>
 ∃ W : Nat -> Nat -> List V -> Hp -> Prop,(∃ m,W 0 m ys H1) /\ ∀ j m zs H,W j m zs H ->
  (J.stop j H /\ N zs H) \/
  (J.go j H /\ ∃ N2 : List V -> Hp -> Prop, (∀ zs' H', N2 zs' H' -> ∃ m', m' < m /\ W (j + 1) m' zs' H') /\ ∀ x H', J.yld j H x H' -> g2 x σ H' fun σ3 H2 => Keep σ σ3 /\ tt2 σ3 H2 fun b H3 =>
   br b (FW wi3 g3 tt3 te σ3 zs H3 N2) (N2 zs H3))
theorem Ae.gotList {X : Cx} {pins : List (Addr × Obj)} {σ : St} {H : Hp} {s : Shared} {h' : Heap} {tk n : Nat} {T : Addr} {vs : List V} {us : List Value} (I : Ae X pins σ H s)
  (k : ∀ b o,s.heap.get? b = some o -> h'.get? b = some o) (hT : s.heap.objs.size <= T) (ht : h'.get? T = some { cls := .type "list",data := .seq us.toArray n }) (rv : At vs us) (hz : vs.length <= sizeLine) :
  Ae X pins σ (upd H T (.lst vs)) { s with heap := h',toks := tk } := by
 have hfr : H T = none := I.hok.fresh hT
 have nT : ∀ b u,H b = some u -> b ≠ T := fun b u e => A6 e hfr
 refine I.step (g' := s.gens) (d' := s.drawn) (ch := []) (fun b hb => absurd hb (by simp)) (fun b o _ _ hc e _ => k b o e) (fun b o _ _ hc e _ => ⟨o.slots,k b o e⟩)
  (fun b o hc e n => ?_) (fun b o hc e => ⟨o,k b o e⟩) (fun b xs e => by rw [Au (nT b _ e)]; exact e) (fun b o xs e => by rw [Au (nT b _ e)]; exact e) (fun b ps e => ⟨#[],by rw [Au (nT b _ e),e]; simp⟩) (fun m hm => ?_) (fun b u e => ?_) I.bare
 ·rw [Au (Nat.ne_of_lt (Nat.lt_of_lt_of_le (Heap.lt_size e) hT))]; exact n
 ·obtain ⟨o,es,ep,ho,r⟩ := hm
  exact ⟨o,es,ep,k _ o ho,r⟩
 ·by_cases hb : b = T
  ·subst hb
   rw [Ak] at e; cases e
   exact ⟨hz,us,n,rv,ht⟩
  ·rw [Au hb] at e
   exact (I.hok b u e).stay (fun c v hc q => k c v q) (fun c q => by rw [Au (nT c _ q)]; exact q) fun c xs q => by rw [Au (nT c _ q)]; exact q
section
variable {X : Cx}
end
def WalkO (J : It) (cap : List (Option Nat)) (g : TG) (tt : TT) (wi2 : TI) (g2 : TG) (tt2 : TT) (wi3 : TI) (g3 : TG) (tt3 : TT) (te : TE) (σ : St) (Q : List V -> Hp -> Prop) (H1 : Hp) : Prop :=
 ∃ W : Nat -> Nat -> List V -> Hp -> Prop,(∃ m,W 0 m [] H1) /\ ∀ i m ys H,W i m ys H ->
  (J.stop i H /\ Q ys H) \/
  (J.go i H /\ ∃ N : List V -> Hp -> Prop, (∀ ys' H', N ys' H' -> ∃ m', m' < m /\ W (i + 1) m' ys' H') /\ ∀ x H', J.yld i H x H' -> g x (AM cap σ) H' fun σ2 H2 => Keep (AM cap σ) σ2 /\ tt σ2 H2 fun b H3 =>
   br b (Om wi2 g2 tt2 wi3 g3 tt3 te σ2 ys H3 N) (N ys H3))
end L2
end
section
namespace L2
open PySem PySem.Spec PyProof.Rows
def C1 (i j k : Int) : List Int := (List.range (CZ i j k)).map fun t : Nat => i + (t : Int) * k
theorem On {n : Nat} {i k : Int} {acc : Array Value} (h : ItemsOf (fun t v => ∃ u,v = Value.int (i + (t : Int) * k) u) acc n) : At (((List.range n).map fun t : Nat => i + (t : Int) * k).map V.int) acc.toList := by
 have go : ∀ (m : Nat) (us : List Value),us.length = m -> (∀ (j : Nat) (v : Value),us[j]? = some v -> ∃ t,v = .int (i + (j : Int) * k) t) -> At (((List.range m).map fun t : Nat => i + (t : Int) * k).map V.int) us := by
  intro m
  induction m with
  | zero => intro us hl _; cases us with
   | nil => exact .nil
   | cons _ _ => cases hl
  | succ m ih =>
   intro us hl hu
   have hne : us ≠ [] := fun e => by rw [e] at hl; cases hl
   have e : us = us.dropLast ++ [us.getLast hne] := (List.dropLast_concat_getLast hne).symm
   have hdl : us.dropLast.length = m := by rw [List.length_dropLast,hl]; rfl
   rw [List.range_succ,List.map_append,List.map_append,e]
   refine (ih us.dropLast hdl fun j v hv => ?_).append (.cons ?_ .nil)
   ·refine hu j v ?_
    rw [e,List.getElem?_append_left (List.getElem?_eq_some_iff.mp hv).1]; exact hv
   ·refine hu m _ ?_
    rw [List.getLast_eq_getElem,List.getElem?_eq_some_iff]
    exact ⟨by omega,by congr 1; omega⟩
 refine go n acc.toList (by simpa using h.1) fun j v hv => ?_
 exact h.2 j v (by simpa using hv)
section
variable {X : Cx}
def Oo (ta : TA) : TE := fun σ H Q => ta σ H fun vs H1 => ∃ i j k : Int,vs = [.int i,.int j,.int k] /\ (-1000 <= i /\ i <= 1000 /\ -1000 <= j /\ j <= 1000 /\ 1 <= k /\ k <= 1000) /\ ∀ p,H1 p = none -> Q (.ref p) (upd H1 p (.lst ((C1 i j k).map V.int)))
theorem Op {a b c : Expr} {ta : TA} {p pos p2 pos2 : Pos} (hc : X.calm = true) (hg0 : Gl X "list") (hm0 : X.mg "list" = none) (hg : Gl X "range") (hm : X.mg "range" = none) (ha : PA X [a,b,c] ta)
  (hs0 : starEach [.Call (.Name "range" p2) [a,b,c] [] pos2] X.env = [(false,eval (.Call (.Name "range" p2) [a,b,c] [] pos2) X.env)] := by rfl) (hs : starEach [a,b,c] X.env = (false,eval a X.env) :: starEach [b,c] X.env := by rfl) (hs2 : starEach [b,c] X.env = [(false,eval b X.env),(false,eval c X.env)] := by rfl) :
  PE X (.Call (.Name "list" p) [.Call (.Name "range" p2) [a,b,c] [] pos2] [] pos) (Oo ta) := by
 intro pins s σ H Q I h
 refine Call_ (Cf I hg0 hm0 Nz (PyProof.Rows.callWith_type1 (by
  rw [hs0]
  refine Calls.spliced_cons (Call_ (Cf I hg hm boot_range (PyProof.Rows.callWith_type1 (Ao (ha pos2 pins s σ H _ I h) fun us s1 ⟨vs,H1,I1,r1,q1⟩ => ?_) hs (by rw [hs2]; rfl))))
  obtain ⟨i,j,k,e,⟨q1,q2,q3,q4,q5,q6⟩,q⟩ := q1
  subst e
  rcases r1 with _ | ⟨r,r1⟩
  rcases r1 with _ | ⟨r',r1⟩
  rcases r1 with _ | ⟨r'',r1⟩
  cases r1
  obtain ⟨t,rfl⟩ := r
  obtain ⟨t',rfl⟩ := r'
  obtain ⟨t'',rfl⟩ := r''
  have hk : k.natAbs.log2 < 30 := by
   by_cases z : k.natAbs = 0
   ·omega
   ·exact (Nat.log2_lt z).mpr (show k.natAbs < 2 ^ 30 by omega)
  have ndv : Builtin.divisionGoesByPylong (j - i) k = false := by
   unfold Builtin.divisionGoesByPylong
   dsimp only
   rw [show (decide ((if (k == 0) = true then 0 else k.natAbs.log2 / 30 + 1) > 300)) = false from decide_eq_false (by
    split
    ·omega
    ·rw [Nat.div_eq_of_lt hk]; omega),Bool.false_and]
  refine call_range_3 (by omega) (Calls.spliced_nil ?_) (.inl ndv)
  have hsz : (s1.heap.push { cls := .type "range",data := .fields #[.int i t,.int j t',.int k t''] }).objs.size = s1.heap.objs.size + 1 := Heap.size_push ..
  obtain ⟨b0,b1⟩ := JJ q5 q1 q4
  refine call_list_range (n := CZ i j k) (I.ok.hd hc) (IsRange.new ..) (NM q5 q6 q1 q2 q3 q4) (by unfold CZ; omega) (by unfold CZ; omega) fun h' tk acc' c' hk hS hacc => ?_
  have hv := On hacc
  have I2 := I1.gotList (tk := tk) (T := s1.heap.objs.size + 1) (us := acc'.toList) (n := c') (fun b o e => hk b o (Heap.get?_push_of_some _ e)) (Nat.le_succ _) (by rw [<- hsz]; simpa using hS) hv (by
   rw [List.length_map,List.length_map,List.length_range]
   have : (3000 : Nat) <= sizeLine := by decide
   unfold CZ; omega)
  refine ⟨.ref (s1.heap.objs.size + 1),_,I2,?_,q _ (I1.hok.fresh (Nat.le_succ _))⟩
  show AA (.ref (s1.heap.objs.size + 1)) (.ref _)
  rw [<- hsz]; rfl) hs0 rfl))
end
theorem Oq {i j k : Int} : ((C1 i j k).map V.int).all CJ = true := by
 rw [List.all_eq_true]
 intro x hx
 obtain ⟨a,_,rfl⟩ := List.mem_map.mp hx
 rfl
end L2
namespace MF
open PySem PySem.Spec PyProof.Rows L2
theorem Os {f e : Int} {h : Nat} (he : 1 <= e) (h8 : h < 8) : BH (.int (h : Int)) ((C1 f 8 e).map V.int) = decide (¬ ((h : Int) < f \/ ((h : Int) - f) % e ≠ 0)) := by
 unfold BH C1
 rw [List.map_map,List.any_map]
 have key : ((List.range (CZ f 8 e)).any ((fun y => CK y (V.int (h : Int))) ∘ V.int ∘ fun t : Nat => f + (t : Int) * e)) = true ↔ ¬ ((h : Int) < f \/ ((h : Int) - f) % e ≠ 0) := by
  rw [List.any_eq_true]
  constructor
  ·rintro ⟨t,ht,q⟩
   have q' : (f + (t : Int) * e == (h : Int)) = true := q
   have q' : f + (t : Int) * e = (h : Int) := by simpa using q'
   have h3 : 0 <= (t : Int) * e := Int.mul_nonneg (by omega) (by omega)
   rintro (c | c)
   ·omega
   ·apply c
    rw [show (h : Int) - f = (t : Int) * e by omega]
    exact Int.mul_emod_left _ _
  ·intro c
   have c1 : ¬ (h : Int) < f := fun z => c (.inl z)
   have c2 : ((h : Int) - f) % e = 0 := by
    by_cases z : ((h : Int) - f) % e = 0
    ·exact z
    ·exact absurd (.inr z) c
   have hd : ((h : Int) - f) = ((h : Int) - f) / e * e := by
    have := Int.emod_add_mul_ediv ((h : Int) - f) e
    rw [c2] at this
    rw [Int.mul_comm]; omega
   have h0 : 0 <= ((h : Int) - f) / e := Int.ediv_nonneg (by omega) (by omega)
   refine ⟨(((h : Int) - f) / e).toNat,List.mem_range.mpr ((NT (n := 8) he).mpr ?_),?_⟩
   ·rw [Int.toNat_of_nonneg h0]
    show f + _ < (8 : Int)
    omega
   ·show (f + ((((h : Int) - f) / e).toNat : Int) * e == (h : Int)) = true
    rw [Int.toNat_of_nonneg h0,beq_iff_eq]
    omega
 cases z : ((List.range (CZ f 8 e)).any ((fun y => CK y (V.int (h : Int))) ∘ V.int ∘ fun t : Nat => f + (t : Int) * e)) with
 | true => exact (decide_eq_true (key.mp z)).symm
 | false => exact (decide_eq_false fun c => by rw [key.mpr c] at z; cases z).symm
end MF
end
section
namespace L2
open PySem PySem.Spec PyProof.Rows
section
variable {X : Cx}
end
end L2
end
section
namespace L2
open PySem PySem.Spec PyProof.Rows
open AutoSeq1 (wpAny_loadPart')
section
variable {P : Program} {w : World} {K : PySem.W.Frag} {A : Around} {E : Value -> Shared -> Prop} {s : Shared} (S1 S2 : Ba P w K)
end
end L2
end
section
namespace L2
open PySem PySem.Spec PyProof.Rows
section
variable {X : Cx}
section
open HT
variable {prog : Program} {w : World} {A : Around} {E : Value -> Shared -> Prop} {s : Shared}
end
end
structure Ot (P : Program) (w : World) (outer : List Env) (H : Hp) (s : Shared) (H' : Hp) (C e : Addr) (s' : Shared) : Prop where
 os : s'.os = s.os
 bare : AllBare s'.gens
 un : Un (Bq outer) [] H H' s.heap s'.heap
 fly : ∃ B t,Heap.FlyingW B outer e (.ref C) t s'.heap /\ (∀ b o,s.heap.get? b = some o -> H b = none -> b ∉ Bq outer -> B.get? b = some o) /\
  (∀ b o,s.heap.get? b = some o -> b ∉ Bq outer -> ∃ o',B.get? b = some o') /\ HOk P w H' B
def J8 (P : Program) (w : World) : B7 := fun outer H s E v s' => ∃ C e H',v = .ref e /\ Ot P w outer H s H' C e s' /\ E (.ref C) none H'
structure IsDef (X : Cx) (E : XK) : Prop where
 stk : X.stack = X.env :: X.outer
 fr : X.env.frame = some X.env.locals
 ex : X.ex = []
 xe : ∀ e s',wpAny (model X.prog X.w) X.A (leaving X.env e) (fun _ s'' => J8 X.prog X.w X.outer X.H₀ X.s₀ E e s'') (fun _ _ => False) s' -> X.xe e s'
section
variable {X : Cx} {pins : List (Addr × Obj)} {σ : St} {H H' : Hp} {s s' : Shared} {C e : Addr} {E : XK}
end
end L2
end
section
namespace L2
open PySem PySem.Spec PyProof.Rows PySem.W Builtin Builtin.ObjectAttr Builtin.Getset_descriptor
structure ExcCls (K : Frag) (D : Addr) : Prop where
 ga : findIn K (.ref D) "__getattribute__" = some (some (.builtin "BaseException.__getattribute__"))
 gt : findIn K (.ref D) "__getattr__" = some none
 cl : (clsIn K D).isSome = true
 ca : findIn K (.ref D) "__class__" = some (some (.builtin "object.__class__"))
 cn : specialIn K (.builtin "object.__class__") "__get__" = some (some (.builtin "getset_descriptor.__get__"))
 tk : takesIn K (.builtin "object.__class__") = some true
 ob : mroIn K D (.type "object") = some true
 bx : mroIn K D (.type "BaseException") = some true
section
variable {prog : Program} {w : World} {A : Around} {E : Value -> Shared -> Prop} {s : Shared} {K : Frag} {x D : Addr}
end
section
variable {X : Cx} {pins : List (Addr × Obj)} {σ : St} {H : Hp} {s : Shared} {A : Around} {E : Value -> Shared -> Prop} {Q : Value -> Shared -> Prop} {c : Value} {b : Bool} {a D : Addr}
end
end L2
end
section
namespace L2
open PySem PySem.Spec PyProof.Rows
section
variable {X : Cx} {E : XK} {st : Stmt} {rest : List Stmt} {t : TS}
end
section
variable {P : Program} {w : World} {K : PySem.W.Frag} {mg : Str -> Option Value} {base : Heap}
structure FnE (P : Program) (w : World) (K : PySem.W.Frag) (mg : Str -> Option Value) (base : Heap) (n : Nat) (x : Str) (ps : List Str) (sp : Sp) : Prop where
 ex : ∃ (f : Addr) (fd : FuncData),Cy P w K mg base (J8 P w) n f fd ps sp /\ mg x = some (.ref f) /\ PySem.W.keepIn K (.ref f) = true /\ Binds K fd ps []
end
section
variable {X : Cx} {pins : List (Addr × Obj)} {σ : St} {H : Hp} {s s' : Shared} {scope : Scope} {N' : List Str} {cap : List (Option Nat)} {A : Around} {outer : List Env} {qual : Str} {f : Addr} {cd : Value} {E : XK}
end
section
variable {X : Cx} {pins : List (Addr × Obj)} {σ : St} {H H' : Hp} {s s' : Shared}
end
structure Ou (k : Nat) (A : Around) : Prop where
 dp : A.depth + 3 * k + 5 < recursionLimit
 un : A.units + 16 * k + 200 < cLine
 gd : A.guards = some []
section
variable {P : Program} {w : World} {K : PySem.W.Frag} {mg : Str -> Option Value} {base : Heap}
structure FnQ (P : Program) (w : World) (K : PySem.W.Frag) (mg : Str -> Option Value) (base : Heap) (n : Nat) (x : Str) (ps : List Str) (sp : Sp) : Prop where
 ex : ∃ (f : Addr) (fd : FuncData),(∀ (A : Around) (outer : List Env) (s : Shared) (H : Hp) (args : Args) (us : List Value) (vs : List V) (Q : VK),Ou n A -> DZ P w K mg base A outer s H -> BindsTo s fd args (ps.zip us) -> At vs us -> sp vs H Q E0 ->
  codeAny (model P w) A (.call (.ref f) args) (CR CX0 outer P w H s Q E0) s) /\ (∀ vs H Q E,sp vs H Q E -> vs.length = ps.length) /\ mg x = some (.ref f) /\ PySem.W.keepIn K (.ref f) = true /\ Binds K fd ps []
structure FnS (P : Program) (w : World) (K : PySem.W.Frag) (mg : Str -> Option Value) (base : Heap) (n : Nat) (x : Str) (ps : List Str) (sp : List Env -> Shared -> Sp) : Prop where
 ex : ∃ (f : Addr) (fd : FuncData),(∀ (A : Around) (outer : List Env) (s : Shared) (H : Hp) (args : Args) (us : List Value) (vs : List V) (Q : VK),Be n A -> DZ P w K mg base A outer s H -> BindsTo s fd args (ps.zip us) -> At vs us -> sp outer s vs H Q E0 ->
  codeAny (model P w) A (.call (.ref f) args) (CR CX0 outer P w H s Q E0) s) /\ mg x = some (.ref f) /\ PySem.W.keepIn K (.ref f) = true /\ Binds K fd ps []
end
section
variable {X : Cx} {H : Hp} {f : Addr} {Q : VK} {W : Addr -> Str -> Prop}
end
section
variable {X : Cx} {H : Hp} {f M : Addr} {Q : VK} {W : Addr -> Str -> Prop} {s1 : Shared}
end
section
variable {X : Cx} {pins : List (Addr × Obj)} {σ : St} {H : Hp} {s : Shared} {scope : Scope} {N' : List Str} {cap : List (Option Nat)} {P c : Addr} {ql : Str} {params : Arguments} {body : Expr} {pos : Pos}
end
section
variable {X : Cx} {scope : Scope} {N' : List Str} {cap : List (Option Nat)} {P c : Addr} {ql : Str} {params : Arguments} {body : Expr} {lpos p pos : Pos} {W : Addr -> Str -> Prop} {k : Nat} {te : XK -> TE}
end
section
variable {X : Cx}
end
def J9 : List Str := ["plant","story","firing","hour","boiler","prices","way","set","tanks","pump","feeding","readings","start","shifts","book","amount","deed","line","text"]
def Ka (K : PySem.W.Frag) (M : Addr) (ds : List Addr) (i : Nat) : Bool :=
 (PySem.W.findIn K (.ref (ds.getD i 0)) "__getattribute__" == some (some (.builtin "BaseException.__getattribute__"))) && (PySem.W.findIn K (.ref (ds.getD i 0)) "__getattr__" == some none) && (PySem.W.clsIn K (ds.getD i 0)).isSome &&
 (PySem.W.findIn K (.ref (ds.getD i 0)) "__class__" == some (some (.builtin "object.__class__"))) && (PySem.W.specialIn K (.builtin "object.__class__") "__get__" == some (some (.builtin "getset_descriptor.__get__"))) && (PySem.W.takesIn K (.builtin "object.__class__") == some true) &&
 (PySem.W.mroIn K (ds.getD i 0) (.type "object") == some true) && (PySem.W.mroIn K (ds.getD i 0) (.type "BaseException") == some true) && (PySem.W.mroIn K (ds.getD i 0) (.ref M) == some true) &&
 ((List.range 19).all fun j => PySem.W.kitOne K (.ref (ds.getD i 0)) (.ref (ds.getD j 0)) == some (j == i)) && (PySem.W.kitOne K (.ref (ds.getD i 0)) (.type "ValueError") == some true)
structure Wd (K : PySem.W.Frag) (M : Addr) (ds : List Addr) (C : Addr) (word : Str) : Prop where
 ex : ∃ i,i < 19 /\ C = ds.getD i 0 /\ J9[i]? = some word /\ Ka K M ds i = true
section
variable {K : PySem.W.Frag} {M : Addr} {ds : List Addr} {i : Nat}
end
structure WdK (K : PySem.W.Frag) (M : Addr) (ds : List Addr) (C : Addr) (word : Str) : Prop where
 ex : ∃ i,i < 16 /\ C = ds.getD i 0 /\ J9[i]? = some word /\ Ka K M ds i = true
section
variable {X : Cx}
end
def GotL (H : Hp) (xs : List V) (Q : VK) : Prop := ∀ r H',Ab H H' -> H r = none -> H' r = some (.lst xs) -> Q (.ref r) H'
theorem GotL.at {H : Hp} {xs : List V} {Q : VK} (q : GotL H xs Q) : ∀ p,H p = none -> Q (.ref p) (upd H p (.lst xs)) := fun p hp => q p _ (Ab.new hp) hp Ak
section
variable {X : Cx} {es : List Expr} {t : TA} {pos : Pos}
def Ov (t : TA) : TE := fun σ H Q => t σ H fun xs H1 => match Nat.ble xs.length 64 with | true => D7 H1 xs Q | false => False
def Ow (t : TA) : TE := fun σ H Q => t σ H fun xs H1 => match Nat.ble xs.length 64 with | true => GotL H1 xs Q | false => False
theorem C3 {x1} (h : PA X es t) : PE X (.Tuple es x1 pos) (Ov t) := by
 intro pins s σ H Q I hq
 refine wpAny_Tuple_spliced (Ao (h pos pins s σ H _ I hq) fun us s1 ⟨xs,H1,I1,r,q⟩ => ?_)
 dsimp only at q
 split at q
 ·rename_i z
  refine ⟨by rw [<- r.length]; exact Dm z,?_⟩
  have hf : H1 s1.heap.objs.size = none := I1.hok.fresh (Nat.le_refl _)
  refine ⟨.ref s1.heap.objs.size,upd H1 s1.heap.objs.size (.tup xs),I1.laid (t' := s1.toks) (fun b u e => Heap.get?_push_of_some _ e) (Nat.le_refl _) ?_,rfl,q _ _ (Ab.new hf) Ak⟩
  exact ⟨Dm z,us,r,⟨_,Heap.get?_push_size _ rfl,rfl,_,rfl⟩⟩
 ·exact q.elim
theorem HI (h : PA X es t) : PE X (.List es pos) (Ow t) := by
 intro pins s σ H Q I hq
 refine wpAny_List_spliced (Ao (h pos pins s σ H _ I hq) fun us s1 ⟨xs,H1,I1,r,q⟩ => ?_)
 dsimp only at q
 split at q
 ·rename_i z
  refine ⟨by rw [<- r.length]; exact Dm z,?_⟩
  have hf : H1 s1.heap.objs.size = none := I1.hok.fresh (Nat.le_refl _)
  refine ⟨.ref s1.heap.objs.size,upd H1 s1.heap.objs.size (.lst xs),I1.laid (t' := s1.toks) (fun b u e => Heap.get?_push_of_some _ e) (Nat.le_refl _) ?_,rfl,q.at _ hf⟩
  exact ⟨Dm z,us,0,r,Heap.get?_push_size _ rfl⟩
 ·exact q.elim
def Ox : R2 := fun x y H Q => ∃ l b xs zs,x = .ref l /\ y = .ref b /\ H l = some (.lst xs) /\ H b = some (.lst zs) /\ xs.length + zs.length <= sizeLine /\ GotL H (xs ++ zs) Q
theorem Oy : OpR X (binaryOp .Add) Ox := by
 intro pins s σ H x y v u Q I rx ry h
 obtain ⟨l,b,xs,zs,e1,e2,h1,h2,hz,q⟩ := h
 exact ML pins s σ H x y v u Q I rx ry ⟨l,b,xs,zs,e1,e2,h1,h2,hz,q.at⟩
end
end L2
end
section
namespace L2
open PySem PySem.Spec PyProof.Rows
section
variable {X : Cx}
end
end L2
namespace MF
open PySem PySem.Spec PyProof.Rows L2
def Bv (p : Int) (q : Int × Int) : Int := if q.2 < p then q.1 * (q.2 - p) else 0
def spared (r co : List Int) (p : Int) : Int := ((r.zip co).map (Bv p)).sum
def B4 (lo hi p b : Int) : Int := (p - b) * (if b < p then lo else hi)
def AW (T : TM) (h : Nat) (p b : Int) : Int := p * T.ds.getD h 0 + spared (T.cs.getD h []) T.co p + B4 T.lo T.hi p b
def BD (T : TM) (ns : List Int) (k : Nat) : Int := ((List.range k).map fun h => AW T h (ns.getD h 0) (ns.getD (h + 1) 0)).sum
def A5 (T : TM) (ns : List Int) : Int := BD T ns ns.length - ns.getD 0 0 * T.st
theorem DN {T : TM} {ns : List Int} {k : Nat} : BD T ns (k + 1) = BD T ns k + AW T k (ns.getD k 0) (ns.getD (k + 1) 0) := by
 unfold BD; rw [List.range_succ,List.map_append,List.sum_append]; simp
structure A9 (T : TM) : Prop where
 ok : T.ok
 c : ∀ r ∈ T.cs,r.length = T.co.length /\ ∀ c ∈ r,0 <= c /\ c <= 20
 o : T.co.length <= 4
 o1 : ∀ c ∈ T.co,1 <= c /\ c <= 9
 d : ∀ x ∈ T.ds,0 <= x /\ x <= 100
 l0 : 0 <= T.lo
 h0 : 0 <= T.hi
 s0 : 0 <= T.st
 l4 : T.lo <= 100
 h4 : T.hi <= 100
 s4 : T.st <= 100
theorem getD_mem {α : Type} {l : List α} {i : Nat} {d : α} (h : i < l.length) : l.getD i d ∈ l := by
 rw [List.getD_eq_getElem?_getD,List.getElem?_eq_getElem h]; exact List.getElem_mem h
def HJ (d : PyData) : Bool := match d with | .int i => decide (0 <= i) | _ => false
theorem Cb {P : PL} {S : SY} (ok : P.ok) {n : Nat} (so : S.ok n) : A9 (terms P S) := by
 have h0 := ok.lo0
 have h1 := ok.ls
 have h2 := ok.sh
 have h3 := ok.h4
 refine ⟨JW so,fun r hr => ⟨by rw [(FP ok r hr).2]; show P.bs.length = (P.bs.map (·.2)).length; rw [List.length_map],fun c hc => by have := (FP ok r hr).1 c hc; omega⟩,by show (P.bs.map (·.2)).length <= 4; rw [List.length_map]; exact ok.b4,fun c hc => ?_,fun x hx => ?_,h0,?_,?_,?_,?_,?_⟩
 ·obtain ⟨q,hq,rfl⟩ := List.mem_map.mp hc
  have := ok.b q hq
  omega
 ·have := FQ ok so x hx; omega
 ·show 0 <= P.hi; omega
 ·show 0 <= P.st; omega
 ·show P.lo <= 100; omega
 ·show P.hi <= 100; omega
 ·show P.st <= 100; omega
theorem Kb {xs : List V} : A7 xs (some 1) none = xs.drop 1 := by
 have e1 : HT.sIx xs.length xs.length none = xs.length := rfl
 have e2 : HT.sIx xs.length 0 (some 1) = min 1 xs.length := HT.sIx_nat _ _ 1
 unfold A7
 rw [e1,e2]
 cases xs with
 | nil => rfl
 | cons a l => rw [Nat.min_eq_left (by simp)]; simp
end MF
end
section
namespace L2
open PySem PySem.Spec PyProof.Rows
variable {X : Cx} {σ : St} {H : Hp} {kvs : List (AO × V)} {te : TE}
theorem Oz : entryFor table "dict_itemiterator.__iter__" = some Builtin.«dict_keyiterator.__iter__» := entryFor_alias (id' := "dict_keyiterator.__iter__") (by kernel_rfl) rfl (by decide +kernel) (by kernel_rfl)
theorem OA {P : Program} {w : World} {k : AO} {v : Value} (h : (Bn P w).is k v = true) : AA (kV k) v := by
 rw [Lo] at h
 rcases CB h with ⟨i,t,rfl,rfl⟩ | ⟨x,t,rfl,rfl⟩
 ·exact ⟨t,rfl⟩
 ·exact ⟨t,rfl⟩
theorem KV.get {κ : Type} : ∀ {ks : List (κ × V)} {vs : List (κ × Value)} {i : Nat} {q : κ × V},KV ks vs -> ks[i]? = some q -> ∃ u,vs[i]? = some (q.1,u) /\ AA q.2 u
 | _,_,_,_,.nil,e => by simp at e
 | _,_,0,_,.cons (b := b) r _,e => by
  simp at e; subst e
  exact ⟨b.2,by rw [r.1]; rfl,r.2⟩
 | _,_,i + 1,q,.cons _ t,e => by
  obtain ⟨u,h1,h2⟩ := KV.get (i := i) (q := q) t (by simpa using e)
  exact ⟨u,by simpa using h1,h2⟩
theorem Ae.dictAt {pins : List (Addr × Obj)} {s : Shared} {d : Addr} {o : Obj} {es : Array DictEntry} {ep : Nat} (I : Ae X pins σ H s) (h : H d = some (.frz o (.dK kvs))) (ho : o.data = .dict es ep) :
  ∃ vs,KV kvs vs /\ s.heap.DictAt (Bn X.prog X.w) d vs ep := by
 obtain ⟨e,_,_,vs,kv,o',es',ep',e',c,dd,r⟩ := (show ObjOk X.prog X.w H s.heap d (.frz o (.dK kvs)) from I.hok d _ h)
 rw [e] at e'; cases e'
 rw [ho] at dd; cases dd
 exact ⟨vs,kv,o,es,e,c,ho,r⟩
def HK (d : Addr) (o : Obj) (kvs : List (AO × V)) : It :=
 ⟨fun i H => H d = some (.frz o (.dK kvs)) /\ i < kvs.length,fun i H v H' => ∃ T q,v = .ref T /\ H T = none /\ kvs[i]? = some q /\ H' = upd H T (.tup [kV q.1,q.2]),fun i H => H d = some (.frz o (.dK kvs)) /\ kvs.length = i⟩
theorem OB {P : Program} {w : World} {K : PySem.W.Frag} {es : List Expr} {k : Nat} {pos : Pos} {o : Obj} {kvs : List (AO × V)} {es0 : Array DictEntry} {ep : Nat} (d it : Addr) (ho : o.data = .dict es0 ep) (hdi : d ≠ it) :
  CC P w K (.Tuple es k pos) (HK d o kvs) [it] it (fun i h => ∃ ok ov,IsItemIter h it d i kvs.length ep ok ov) where
 mem := by simp
 obj := fun i h st b hb => by
  obtain ⟨ok,ov,he⟩ := st
  rw [List.mem_singleton.mp hb]
  exact ⟨_,he,fun v z => by
   have z' : Data.fields _ = Data.cell v := z
   cases z'⟩
 keep := fun i h h' st kk => by obtain ⟨ok,ov,he⟩ := st; exact ⟨ok,ov,kk it (by simp) _ he⟩
 item := by
  intro X hP hw hK hc i pins s σ H E I hf st hg
  subst hP hw
  obtain ⟨ok,ov,he⟩ := st
  obtain ⟨hd,hlt⟩ := hg
  obtain ⟨vs,kv,hm⟩ := I.dictAt hd ho
  have hl : kvs.length = vs.length := Paired.length kv
  have hq : kvs[i]? = some kvs[i] := by simp [hlt]
  obtain ⟨u,hu,ru⟩ := kv.get hq
  rw [hl] at he
  refine wpAny_pyNext_items_item he hm hu fun key h1 hkey hout htup hsz hk => ⟨_,rfl,wpAny_letOwnedTupleGo_items hout fun h2 he2 hs2 => ?_⟩
  have hiH : it < s.heap.objs.size := Heap.lt_size he
  have kk : ∀ b ob,b ∉ [it] -> s.heap.get? b = some ob -> h2.get? b = some ob := fun b ob hb q => hs2.extBut b ob (fun z => hb (by rw [z]; simp)) (hk b ob (fun z => hb (by rw [z]; simp)) q)
  have ht2 : IsTup h2 s.heap.objs.size [key,u].toArray := ⟨_,(hs2.2 _ (Nat.ne_of_gt hiH)).trans htup,rfl,_,rfl⟩
  exact ⟨.ref s.heap.objs.size,upd H s.heap.objs.size (.tup [kV kvs[i].1,kvs[i].2]),I.yielded (tk := s.toks) (fun b hb => hf b hb) kk (Nat.le_refl _) ht2 (.cons (OA hkey) (.cons ru .nil)) (by show 2 <= sizeLine; decide),rfl,
   ⟨_, kvs[i], rfl, I.hok.fresh (Nat.le_refl _), hq, rfl⟩, ⟨key, u, by rw [hl]; exact he2⟩, fun b hb => by
    rw [List.mem_singleton.mp hb,Au (Nat.ne_of_lt hiH)]; exact (hf it (by simp)).1⟩
 done := by
  intro X hP hw hK hc i pins s σ H E I hf st hg
  subst hP hw
  obtain ⟨ok,ov,he⟩ := st
  obtain ⟨hd,hlt⟩ := hg
  obtain ⟨vs,kv,hm⟩ := I.dictAt hd ho
  have hl : kvs.length = vs.length := Paired.length kv
  rw [hl] at he
  refine wpAny_pyNext_items_end (I.ok.hd hc) he hm (by rw [List.getElem?_eq_none]; omega) fun h' he' => ⟨rfl,I.ended (tk := s.toks) (fun b hb => hf b hb) fun b ob hb q => he' b ob (fun z => hb (by rw [z]; simp)) q⟩
 self := fun A i s Q E st h => by
  obtain ⟨ok,ov,he⟩ := st
  have hT : s.TypeIs (.ref it) "dict_itemiterator" := ⟨_,he,rfl⟩
  refine wpAny_pyIter_slot hT F.slot_dict_itemiterator_iter (wpAny_call_entry F.slot_dict_itemiterator_iter hT Oz ?_ (F.args_dict_itemiterator_iter_1 _))
  show wpAny _ _ (ret (.ref it)) _ _ s
  exact wpAny_pure ⟨_,rfl,"dict_itemiterator",_,hT,F.slot_dict_itemiterator_next.lookup,h⟩
def OC (te : TE) : TI := fun σ H R => te σ H fun x H1 => ∃ d o kvs,x = .ref d /\ H1 d = some (.frz o (.dK kvs)) /\ R (HK d o kvs) H1
theorem Kc {es : List Expr} {k : Nat} {pos' apos cpos : Pos} {e : Expr} (he : PE X e te) (hbase : attributeBase e "items" X.env (eval e X.env) = eval e X.env := by rfl) (hline : (apos.endLine == cpos.line) = true := by rfl) :
  PI X (.Tuple es k pos') (.Call (.Attribute e "items" apos) [] [] cpos) (OC te) := by
 intro pins s σ H R I h
 refine wpAny_Call_method0_late hbase hline (Ao (he pins s σ H _ I h) fun v s1 ⟨x,H1,I1,r1,d,o,kvs,ex,hd,q⟩ => ?_)
 subst ex
 cases r1
 obtain ⟨eo,_,hsys,vs0,kv0,hm0⟩ := (show ObjOk X.prog X.w H1 s1.heap d (.frz o (.dK kvs)) from I1.hok d _ hd)
 obtain ⟨o',es0,ep,e',c,dd,r⟩ := id hm0
 have eoo : o' = o := by rw [eo] at e'; exact (Option.some.inj e').symm
 subst eoo
 refine ⟨"dict","dict.items",F.plainAttrs_dict,F.slot_dict_items,F.type_dict_items,hm0.typeIs,hm0.mapOf.noDict,?_⟩
 refine method_meetsIn F.slot_dict_items F.entry_dict_items rfl (PySem.evalArgs_none ⟨rfl,hm0.typeIs,F.args_dict_items_1 _,_,meets_dict_items (Bn X.prog X.w) d hsys,⟨_,hm0⟩,?_⟩)
 have hlt := Heap.lt_size eo
 have hz : (s1.heap.push { cls := .type "dict_items",data := .fields #[.ref d] }).objs.size = s1.heap.objs.size + 1 := Heap.size_push ..
 have hm1 : s1.heap.DictAt (Bn X.prog X.w) d vs0 ep := ⟨o',es0,eo,c,dd,r⟩
 refine wpAny_pyIter_items (knd := Bn X.prog X.w) (d := d) (kvs := vs0) (ep := ep) ⟨_,Heap.get?_push_size _ rfl,rfl,rfl⟩ (hm1.push _) ?_
 have hl : kvs.length = vs0.length := Paired.length kv0
 dsimp only
 have kk : ∀ b ob,s1.heap.get? b = some ob -> ((s1.heap.push { cls := .type "dict_items",data := .fields #[.ref d] }).push { cls := .type "dict_itemiterator",data := .fields #[.none,.bool false,.ref d,.int 0 0,.int vs0.length 0,.int ep 0,.none,.none] }).get? b = some ob := fun b ob q => Heap.get?_push_of_some _ (Heap.get?_push_of_some _ q)
 have hit : ((s1.heap.push { cls := .type "dict_items",data := .fields #[.ref d] }).push { cls := .type "dict_itemiterator",data := .fields #[.none,.bool false,.ref d,.int 0 0,.int vs0.length 0,.int ep 0,.none,.none] }).get? (s1.heap.objs.size + 1) = some { cls := .type "dict_itemiterator",data := .fields #[.none,.bool false,.ref d,.int 0 0,.int vs0.length 0,.int ep 0,.none,.none] } := by
  rw [<- hz]; exact Heap.get?_push_size _ rfl
 rw [hz]
 generalize (s1.heap.push { cls := .type "dict_items",data := .fields #[.ref d] }).push { cls := .type "dict_itemiterator",data := .fields #[.none,.bool false,.ref d,.int 0 0,.int vs0.length 0,.int ep 0,.none,.none] } = h2 at kk hit
 refine ⟨s1.heap.objs.size + 1,[s1.heap.objs.size + 1],_,_,H1,rfl,I1.kept (t' := s1.toks) kk,OB (o := o') (kvs := kvs) d (s1.heap.objs.size + 1) dd (Nat.ne_of_lt (Nat.lt_succ_of_lt hlt)),⟨.none,.none,by rw [hl]; exact hit⟩,fun b hb => ?_,q⟩
 rw [List.mem_singleton.mp hb]; exact I1.fpOk (Nat.le_succ _) (I1.hok.fresh (Nat.le_succ _))
theorem Kd {d : Addr} {o : Obj} {cap : List (Option Nat)} {g : TG} {tt : TT} {Q : List V -> Hp -> Prop} (Pv : Nat -> List V -> Hp -> Prop) (hn : kvs.length <= 100000) (h0 : Pv 0 [] H) (hz : ∀ i zs H,Pv i zs H -> zs.length <= i)
  (hl : ∀ i zs H,Pv i zs H -> H d = some (.frz o (.dK kvs)))
  (hs : ∀ i q zs H T,kvs[i]? = some q -> Pv i zs H -> H T = none -> g (.ref T) (AM cap σ) (upd H T (.tup [kV q.1,q.2])) fun σ2 H2 => Keep (AM cap σ) σ2 /\ tt σ2 H2 fun b H3 => br b (te σ2 H3 fun y H4 => Pv (i + 1) (zs ++ [y]) H4) (Pv (i + 1) zs H3))
  (hd : ∀ zs H,Pv kvs.length zs H -> Q zs H) : DF (HK d o kvs) cap g tt te σ Q H :=
 D5 kvs.length Pv hn h0 hz (fun i zs H hi p => ⟨⟨hl i zs H p,hi⟩,fun v H' ⟨T,q,e,n,hq,y⟩ => by
  subst e y
  exact hs i q zs H T hq p n⟩)
  fun zs H p => ⟨⟨hl _ zs H p,rfl⟩,hd zs H p⟩
end L2
end
section
namespace L2
open PySem PySem.Spec PyProof.Rows
variable {k : AO} {v : V} {u : Value} {P : Program} {h : Heap} {vs : List (AO × Value)} {Y : Cx} {PB : List (Addr × Obj)} {σ : St} {H : Hp}
abbrev KL := List (AO × V)
def BT (ks : KL) (k : AO) (v : V) : KL := if ks.any (fun q => q.1 = k) then ks.map (fun q => if q.1 = k then (q.1,v) else q) else ks ++ [(k,v)]
theorem KV.anyK : ∀ {ks : KL} {vs : List (AO × Value)},KV ks vs -> ks.any (fun q => q.1 = k) = vs.any (fun q => q.1 = k)
 | _,_,.nil => rfl
 | _,_,.cons r t => by rw [List.any_cons,List.any_cons,KV.anyK t,r.1]
theorem KV.mapK (h : AA v u) : ∀ {ks : KL} {vs : List (AO × Value)},KV ks vs -> KV (ks.map fun q => if q.1 = k then (q.1,v) else q) (vs.map fun q => if q.1 = k then (q.1,u) else q)
 | _,_,.nil => .nil
 | _,_,.cons (a := a) (b := b) r t => by
  rw [List.map_cons,List.map_cons]
  refine .cons ?_ (KV.mapK h t)
  rw [<- r.1]
  split
  ·exact ⟨r.1 ▸ rfl,h⟩
  ·exact r
theorem KV.snoc {κ : Type} {q : κ × V} {p : κ × Value} (h : q.1 = p.1 /\ AA q.2 p.2) : ∀ {ks : List (κ × V)} {vs : List (κ × Value)},KV ks vs -> KV (ks ++ [q]) (vs ++ [p])
 | _,_,.nil => .cons h .nil
 | _,_,.cons r t => .cons r (KV.snoc h t)
theorem KV.put (h : AA v u) {ks : KL} {vs : List (AO × Value)} (r : KV ks vs) : KV (BT ks k v) (stored vs k u) := by
 unfold BT stored
 rw [r.anyK]
 split
 ·exact KV.mapK h r
 ·exact KV.snoc ⟨rfl,h⟩ r
theorem Ke (ks : KL) (k : AO) (v : V) : (BT ks k v).length <= ks.length + 1 := by
 unfold BT
 split
 ·rw [List.length_map]; omega
 ·rw [List.length_append]; simp
theorem OD (P : Program) (w : World) (h : AA (kV k) u) : (Bn P w).is k u = true := by
 cases k with
 | inl i => obtain ⟨t,rfl⟩ := h; exact Ip P w i t
 | inr x => obtain ⟨t,rfl⟩ := h; exact Lp P w x t
section
variable {prog : Program} {w : World} {A : Around} {R : Result -> Shared -> Prop} {s : Shared} {kx vx tg it : Expr} {ifs : List Expr} {sc : Scope} {ps : Pos} {itv : Value} {D : Addr} {env : Env}
theorem OE (ht : ∀ v,letOwnedTupleGo tg itv v = pure ()) (I : Nat -> Shared -> Prop)
  (turn : ∀ n s, I n s -> wpAny (model prog w) A (pyNext itv) (fun r s1 => match r with
   | none => R (.ok .next) s1
   | some v => wpAny (model prog w) A (letOwnedTupleGo tg itv v) (fun _ s2 => wpAny (model prog w) A (assign tg env v) (fun _ s3 =>
     wpAny (model prog w) A (forIn ifs true fun c r => if r = true then do let ok <- isTrue c env (eval c env); pure (ForInStep.yield ok) else pure (ForInStep.yield r)) (fun ok s4 =>
      if ok = true then wpAny (model prog w) A (eval kx env) (fun kv s5 => wpAny (model prog w) A (eval vx env) (fun vv s6 => wpAny (model prog w) A (dictSet D kv vv) (fun _ s7 => ∃ m,m < n /\ I m s7) (fun _ _ => False) s6) (fun _ _ => False) s5) (fun _ _ => False) s4
      else ∃ m,m < n /\ I m s4) (fun _ _ => False) s3) (fun _ _ => False) s2) (fun _ _ => False) s1) (fun _ _ => False) s)
  (n : Nat) (h : I n s) : codeAny (model prog w) A (.compLoop (.DictComp kx vx [⟨tg,it,ifs,0⟩] sc ps) 0 itv (.ref D) env) R s := by
 refine codeAny_compLoop_testsD I (fun m s0 hI => wpAny_mono (turn m s0 hI) (fun r s1 h1 => ?_) fun _ _ z => z.elim) n h ht
 cases r with
 | none => exact h1
 | some v =>
  have both := wpAny_bind h1
  rw [ht v,pure_bind] at both
  refine wpAny_mono both (fun _ s3 h3 => wpAny_mono h3 (fun ok s4 h4 => ?_) fun _ _ z => z.elim) fun _ _ z => z.elim
  cases ok with
  | false => exact h4
  | true => exact wpAny_mono h4 (fun kv s5 h5 => wpAny_mono h5 (fun vv s6 h6 => wpAny_mono h6 (fun _ _ z => z) fun _ _ z => z.elim) fun _ _ z => z.elim) fun _ _ z => z.elim
end
structure GrownD (Y : Cx) (a : Addr) (PB : List (Addr × Obj)) (σ : St) (zs : KL) (H : Hp) (s : Shared) : Prop where
 inv : Ae Y PB σ H s
 no : H a = none
 len : zs.length <= sizeLine
 at' : ∃ o vs,s.heap.get? a = some o /\ KV zs vs /\ s.heap.DictOf (Bn Y.prog Y.w) a vs
def DictO (P : Program) (w : World) (o : Obj) (vs : List (AO × Value)) : Prop := ∃ es ep,o.ExactDict /\ o.data = .dict es ep /\ KeysOf (Bn P w) es /\ Pairs (Bn P w) es.toList vs /\ (vs.map (·.1)).Nodup
theorem DictO.of {w : World} {a : Addr} {o : Obj} (d : h.DictOf (Bn P w) a vs) (e : h.get? a = some o) : DictO P w o vs := by
 obtain ⟨o',es,ep,e',r⟩ := d
 rw [e] at e'; cases e'
 exact ⟨es,ep,r⟩
theorem DictO.to {w : World} {a : Addr} {o : Obj} (d : DictO P w o vs) (e : h.get? a = some o) : h.DictOf (Bn P w) a vs := by
 obtain ⟨es,ep,r⟩ := d
 exact ⟨o,es,ep,e,r⟩
theorem GrownD.pin {a : Addr} {zs : KL} {s : Shared} {o : Obj} (A : CW Y a) (g : GrownD Y a PB σ zs H s) (e : s.heap.get? a = some o) (d : DictO Y.prog Y.w o vs) : Ae Y ((a,o) :: PB) σ H s :=
 g.inv.pins_of fun p hp => by
  rcases List.mem_cons.mp hp with rfl | hp
  ·exact ⟨e,g.no,A.loc,A.fs,fun v z => by
    obtain ⟨es,ep,_,dd,_⟩ := d
    have z' : o.data = .cell v := z
    rw [dd] at z'; cases z'⟩
  ·exact g.inv.pin p (List.mem_append_right _ hp)
theorem Ae.grownD {a : Addr} {zs : KL} {s : Shared} {o : Obj} (I : Ae Y ((a,o) :: PB) σ H s) (hz : zs.length <= sizeLine) (v : KV zs vs) (d : DictO Y.prog Y.w o vs) : GrownD Y a PB σ zs H s := by
 have q := I.pin (a,o) (List.mem_append_right _ List.mem_cons_self)
 exact ⟨I.pins_of fun p hp => I.pin p (List.mem_append_right _ (List.mem_cons_of_mem _ hp)),q.2.1,hz,o,vs,q.1,v,d.to q.1⟩
def Kf (wi : TI) (cap : List (Option Nat)) (g : TG) (tt : TT) (tk te : TE) : St -> Hp -> (KL -> Hp -> Prop) -> Prop := fun σ H Q => wi σ H fun J H1 =>
 ∃ W : Nat -> Nat -> KL -> Hp -> Prop,(∃ m,W 0 m [] H1) /\ ∀ i m ys H,W i m ys H ->
  (J.stop i H /\ Q ys H) \/
  (J.go i H /\ ys.length < sizeLine /\ ∃ N : KL -> Hp -> Prop, (∀ ys' H', N ys' H' -> ∃ m', m' < m /\ W (i + 1) m' ys' H') /\ ∀ x H', J.yld i H x H' -> g x (AM cap σ) H' fun σ2 H2 => Keep (AM cap σ) σ2 /\ tt σ2 H2 fun b H3 =>
   br b (tk σ2 H3 fun k H4 => te σ2 H4 fun y H5 => ∃ kk,k = kV kk /\ N (BT ys kk y) H5) (N ys H3))
theorem OF {kx vx tg it : Expr} {ifs : List Expr} {sc : Scope} {ps : Pos} {m0 : Nat} {Y : Cx} {a jt : Addr} {PB : List (Addr × Obj)} {g : TG} {tt : TT} {tk te : TE} {fp : List Addr} {tn : Nat -> Heap -> Prop} {J : It} {W : Nat -> Nat -> KL -> Hp -> Prop} {σ : St} {ys : KL} {H : Hp} {s : Shared} {N : KL -> Hp -> Prop} {R : Result -> Shared -> Prop}
  (A : CW Y a) (hnm : ∀ itv v,letOwnedTupleGo tg itv v = pure ()) (hPB : ∀ p ∈ PB,p.1 ≠ a) (hx : Y.xe = fun _ _ => False) (hg : PG Y tg g) (htt : Bz Y ifs tt) (hk : PE Y kx tk) (he : PE Y vx te)
  (T : CC Y.prog Y.w Y.K tg J fp jt tn) (na : ∀ b ∈ fp,b ≠ a) (fpY : ∀ {o : Obj} {H' : Hp},(∀ b ∈ fp,H' b = none) -> ∀ b ∈ fp,Bp Y ((a,o) :: PB) H' b) (st : tn 0 s.heap) (gr : GrownD Y a PB σ ys H s) (hn : ∀ b ∈ fp,H b = none) (w0 : W 0 m0 ys H)
  (turn : ∀ j m zs H,W j m zs H -> (J.stop j H /\ N zs H) \/ (J.go j H /\ zs.length < sizeLine /\ (∃ N2 : KL -> Hp -> Prop,(∀ zs' H',N2 zs' H' -> ∃ m',m' < m /\ W (j + 1) m' zs' H') /\ ∀ x H',J.yld j H x H' -> g x σ H' fun σ3 H2 => Keep σ σ3 /\ tt σ3 H2 fun b H3 => br b (tk σ3 H3 fun k H4 => te σ3 H4 fun y H5 => ∃ kk,k = kV kk /\ N2 (BT zs kk y) H5) (N2 zs H3))))
  (back : ∀ zs H' s',GrownD Y a PB σ zs H' s' -> N zs H' -> R (.ok .next) s') : codeAny (model Y.prog Y.w) Y.A (.compLoop (.DictComp kx vx [⟨tg,it,ifs,0⟩] sc ps) 0 (.ref jt) (.ref a) Y.env) R s := by
 refine OE (hnm _) (fun n' s' => ∃ (j : Nat) (zs : KL) (H' : Hp),GrownD Y a PB σ zs H' s' /\ tn j s'.heap /\ (∀ b ∈ fp,H' b = none) /\ W j n' zs H') ?_ m0 ⟨0,ys,H,gr,st,hn,w0⟩
 rintro n' s12 ⟨j,zs,H12,g12,st12,fr12,w12⟩
 obtain ⟨o12,vs12,e12,v12,d12⟩ := g12.at'
 have do12 := DictO.of d12 e12
 have I12 := g12.pin A e12 do12
 rcases turn j n' zs H12 w12 with ⟨stop,q⟩ | ⟨go2,hz0⟩
 ·refine Ao (T.done Y rfl rfl rfl A.calm j _ s12 _ H12 _ I12 (fpY fr12) st12 stop) fun r s13 ⟨hr,I13⟩ => ?_
  subst hr
  exact back zs H12 s13 (Ae.grownD I13 g12.len v12 do12) q
 ·obtain ⟨hC,N2,hN2,step2⟩ := hz0
  refine Ao (T.item Y rfl rfl rfl A.calm j _ s12 _ H12 _ I12 (fpY fr12) st12 go2) fun r s13 ⟨u2,hr,h13⟩ => ?_
  subst hr
  refine Ao h13 fun _ s14 ⟨x2,H14,I14,r14,y14,st14,fr14⟩ => ?_
  have I14' := I14.pinned (fpY fr14) (T.obj _ _ st14)
  have hgY := hg _ s14 _ H14 x2 u2 _ I14' r14 (step2 x2 H14 y14)
  rw [hx] at hgY
  refine Ao hgY fun _ s15 ⟨σ15,H15,I15,kp2,q15⟩ => ?_
  have htY := htt _ s15 σ15 H15 _ I15 q15
  rw [hx] at htY
  refine Ao htY fun b2 s16 ⟨H16,I16,q16⟩ => ?_
  have pn : ∀ p ∈ PB ++ Ct fp s14.heap,p.1 ≠ a := fun p hp => by
   rcases List.mem_append.mp hp with hp | hp
   ·exact hPB p hp
   ·exact na p.1 (G7 hp).1
  have back2 : ∀ {σ' : St} {zs' : KL} {H' : Hp} {s' : Shared},Keep σ σ' -> GrownD Y a (PB ++ Ct fp s14.heap) σ' zs' H' s' -> N2 zs' H' -> ∃ m,m < n' /\ ∃ (j : Nat) (zs : KL) (H' : Hp),GrownD Y a PB σ zs H' s' /\ tn j s'.heap /\ (∀ b ∈ fp,H' b = none) /\ W j m zs H' := fun {σ' zs' H' s'} kp G n2 => by
   obtain ⟨m',hm,w16⟩ := hN2 _ _ n2
   refine ⟨m',hm,j + 1,zs',H',⟨(G.inv.pins_of fun p hp => G.inv.pin p (List.mem_append_right _ (List.mem_append_left _ hp))).weak (by rw [kp.len]) fun i v e => kp.get e,G.no,G.len,G.at'⟩,T.keep _ _ _ st14 fun b hb o e => (G.inv.pin (b,o) (List.mem_append_right _ (List.mem_append_right _ (DY hb e)))).1,fun b hb => ?_,w16⟩
   obtain ⟨o,e,d⟩ := T.obj _ _ st14 b hb
   exact (G.inv.pin (b,o) (List.mem_append_right _ (List.mem_append_right _ (DY hb e)))).2.1
  have g16 : GrownD Y a (PB ++ Ct fp s14.heap) σ15 zs H16 s16 := Ae.grownD I16 g12.len v12 do12
  cases b2 with
  | false =>
   rw [if_neg Bool.false_ne_true]
   exact back2 kp2 g16 (q16.2 rfl)
  | true =>
   rw [if_pos rfl]
   have hkY := hk _ s16 σ15 H16 _ I16 (q16.1 rfl)
   rw [hx] at hkY
   refine Ao hkY fun kv s17 ⟨kval,H17,I17,r17,q17⟩ => ?_
   have heY := he _ s17 σ15 H17 _ I17 q17
   rw [hx] at heY
   refine Ao heY fun yv s18 ⟨y,H18,I18,r18,kk,ek,n18⟩ => ?_
   subst ek
   have G18 := Ae.grownD I18 g12.len v12 do12
   have e18 := (I18.pin (a,o12) (List.mem_append_right _ List.mem_cons_self)).1
   refine wpAny_dictSet_pairs (hsz := by rw [<- Paired.length v12]; exact g12.len) (OD Y.prog Y.w r17) (do12.to e18) fun h6 d6 hs6 => ?_
   have I19 : Ae Y (PB ++ Ct fp s14.heap) σ15 H18 { s18 with heap := h6,toks := s18.toks + 1 } :=
    G18.inv.turned (t' := s18.toks + 1) (it := a) (fun b o hb e => hs6.extBut b o hb e) G18.no A.loc A.sz A.cell fun p hp z => by
     rw [A.pn,List.nil_append] at hp
     exact pn p hp z
   obtain ⟨o6,es6,ep6,e6,r6⟩ := id d6
   exact back2 kp2 ⟨I19,G18.no,by have := Ke zs kk y; omega,o6,_,e6,KV.put r18 v12,d6⟩ n18
theorem OG {X : Cx} {tg iter kx vx : Expr} {ifs : List Expr} {scope : Scope} {pos pos' : Pos} {wi : TI} {g : TG} {tt : TT} {tk te : TE} {N' : List Str} {cap : List (Option Nat)} {use : Option (Value -> Sem Unit)} {Q' : Value -> Shared -> Prop}
  {pins : List (Addr × Obj)} {s : Shared} {σ : St} {H : Hp} {Q : KL -> Hp -> Prop}
  (hc : X.calm = true) (hi : PI X tg iter wi) (B : AJ X.env.scope X.N scope N' cap) (hg : ∀ s H ex C,PG (AI X N' scope s H ex C) tg g) (ht : ∀ s H ex C,Bz (AI X N' scope s H ex C) ifs tt)
  (hk : ∀ s H ex C,PE (AI X N' scope s H ex C) kx tk) (he : ∀ s H ex C,PE (AI X N' scope s H ex C) vx te)
  (hnm : ∀ itv v,letOwnedTupleGo tg itv v = pure ()) (hs : ∀ x,foldedSetIterable iter X.env x = pure x) (I : Ae X pins σ H s)
  (h : Kf wi cap g tt tk te σ H Q)
  (fin : ∀ (acc C : Addr) (H : Hp) (ys : KL) (o : Obj) (s' : Shared),H acc = none -> Ae X pins σ (upd H acc (.frz o (.dK ys))) s' -> Fw X pins C (upd H acc (.frz o (.dK ys))) s' -> Q ys H -> compPost (model X.prog X.w) X.A X.xe use Q' (.ref acc) C (.ok .next) s') :
  wpAny (model X.prog X.w) X.A (comprehension (.DictComp kx vx [⟨tg,iter,ifs,0⟩] scope pos) scope X.env pos' newDict false (eval iter X.env) use) Q' X.xe s := by
 have hclos : closureFor scope X.env = pure (Bj X.env.cells scope.names []) := Jk fun y hy hf => I.ok.has y.1 (B.free y hy hf)
 refine wpAny_comprehension_free (cl := Bj X.env.cells scope.names []) rfl hs hclos B.kind B.names (Ao (hi pins s σ H _ I h) fun v s1 h1 => Ao h1 fun itv s2 h2 => ?_)
 obtain ⟨it,fp,tn,J,H2,e,I2,T,st2,f2,W,⟨m0,w0⟩,turn⟩ := h2
 subst e
 refine wpAny_newObj_type (Jl ?_)
 dsimp only
 generalize hH3 : s2.heap.push { cls := .type "dict",dict := none,data := .dict #[] } = h3
 have hsz3 : h3.objs.size = s2.heap.objs.size + 1 := by rw [<- hH3]; exact Heap.size_push ..
 have hk3 : ∀ b o,s2.heap.get? b = some o -> h3.get? b = some o := fun b o e => by rw [<- hH3]; exact Heap.get?_push_of_some _ e
 have hacc3 : h3.get? s2.heap.objs.size = some { cls := .type "dict",data := .dict #[] } := by rw [<- hH3]; exact Heap.get?_push_size _ rfl
 have hlt : ∀ b ∈ fp,b < s2.heap.objs.size := fun b hb => let ⟨o,e,_⟩ := T.obj _ _ st2 b hb; Heap.lt_size e
 have I4 := Jn I2 B f2 hlt hk3 (by rw [hsz3]; exact Nat.le_succ _)
 have acc4 : (pushCells (h3.push { cls := .type "dict",data := .dict #[] }) scope.names).get? s2.heap.objs.size = some { cls := .type "dict",data := .dict #[] } := pushCells_keeps _ _ _ _ (Heap.get?_push_of_some _ hacc3)
 have st4 : tn 0 (pushCells (h3.push { cls := .type "dict",data := .dict #[] }) scope.names) := T.keep _ _ _ st2 fun b _ o e => pushCells_keeps _ _ _ _ (Heap.get?_push_of_some _ (hk3 b o e))
 have dict4 : (pushCells (h3.push { cls := .type "dict",data := .dict #[] }) scope.names).DictOf (Bn X.prog X.w) s2.heap.objs.size [] := Heap.DictOf.at (hH3 ▸ Heap.DictOf.new s2.heap) fun o e => pushCells_keeps _ _ _ _ (Heap.get?_push_of_some _ e)
 have haC : s2.heap.objs.size ≠ h3.objs.size := by rw [hsz3]; exact Nat.ne_of_lt (Nat.lt_succ_self _)
 have haN : s2.heap.objs.size ∉ Bq X.stack := fun z => by
  rcases List.mem_cons.mp (I2.stkSub _ z) with q | q
  ·exact absurd I2.lt (by rw [<- q]; exact Nat.lt_irrefl _)
  ·exact I2.nofs (Nat.le_refl _) q
 have okY := I4.ok
 have fpY : ∀ {pins' : List (Addr × Obj)} {H' : Hp},(∀ b ∈ fp,H' b = none) -> (∀ p ∈ pins',p.1 = s2.heap.objs.size) -> ∀ b ∈ fp,Bp (AI X N' scope s2 H2 fp h3.objs.size) pins' H' b := fun {pins' H'} hn hp b hb =>
  ⟨hn b hb, (okY.exf b hb).1, okY.exfs b hb, .inl hb, (okY.exf b hb).2, fun p z e => by
   have z' : p ∈ pins' := z
   have := hlt b hb
   rw [<- e,hp p z'] at this
   exact Nat.lt_irrefl _ this⟩
 have cellNe : ∀ x c,(AI X N' scope s2 H2 fp h3.objs.size).env.cells.lookup x = some c -> c ≠ s2.heap.objs.size := fun x c ec z => by
  rcases D0 scope.names (h3.objs.size + 1) _ ec with q' | q'
  ·rw [z,hsz3] at q'
   exact absurd q' (by omega)
  ·have ec' : X.env.cells.lookup x = some c := (DD _ _ q').elim id fun z => nomatch z
   obtain ⟨_,q''⟩ := I2.cell x c ec'
   have := q''.lt
   rw [z] at this
   exact Nat.lt_irrefl _ this
 have loop : ∀ s4 : Shared,s4 = { s2 with heap := pushCells (h3.push { cls := .type "dict",data := .dict #[] }) scope.names } ->
   codeAny (model X.prog X.w) X.A (.compLoop (.DictComp kx vx [⟨tg,iter,ifs,0⟩] scope pos) 0 (.ref it) (.ref s2.heap.objs.size) (Hr scope X.env h3.objs.size)) (compPost (model X.prog X.w) X.A X.xe use Q' (.ref s2.heap.objs.size) h3.objs.size) s4 := by
  rintro s4 rfl
  have A0 : CW (AI X N' scope s2 H2 fp h3.objs.size) s2.heap.objs.size := ⟨haC,haN,.inr (Nat.le_refl _),cellNe,rfl,hc⟩
  refine OF (Y := AI X N' scope s2 H2 fp h3.objs.size) (PB := []) (W := W) A0 hnm (fun p hp => absurd hp (by simp)) rfl (hg _ _ _ _) (ht _ _ _ _) (hk _ _ _ _) (he _ _ _ _) T (fun b hb z => absurd (hlt b hb) (by rw [z]; exact Nat.lt_irrefl _))
   (fun {o H'} hn b hb => fpY hn (fun p hp => by rw [List.mem_singleton.mp hp]) b hb) st4 ⟨I4,I2.hok.fresh (Nat.le_refl _),Nat.zero_le _,_,[],acc4,.nil,dict4⟩ (fun b hb => (f2 b hb).1) w0 turn fun ys H5 s6 G q => ?_
  obtain ⟨o6,vs6,e6,v5,d6⟩ := G.at'
  have bigA : (s2.heap.objs.size == sysModules) = false := beq_eq_false_iff_ne.mpr (Ne.symm (Nat.ne_of_lt I2.big))
  have fa5 := G.no
  have z5 := G.len
  have I6 := G.inv
  have nacc : ∀ b u,H5 b = some u -> b ≠ s2.heap.objs.size := fun b u q z => by rw [z,fa5] at q; cases q
  have un : Un (Bq X.stack) fp H2 (upd H5 s2.heap.objs.size (.frz o6 (.dK ys))) s2.heap s6.heap := by
   have u := I6.base
   refine ⟨u.keep,u.slot,fun b o q n hx => ?_,u.there,fun b xs q => ?_,fun b o xs q => ?_,fun b ps q => ?_⟩
   ·rw [Au (Nat.ne_of_lt (Heap.lt_size q))]
    exact u.free b o q n hx
   ·have z := u.tups b xs q
    rw [Au (nacc b _ z)]; exact z
   ·have z := u.frzs b o xs q
    rw [Au (nacc b _ z)]; exact z
   ·obtain ⟨more,z⟩ := u.tbls b ps q
    exact ⟨more,by rw [Au (nacc b _ z)]; exact z⟩
  have hok : HOk X.prog X.w (upd H5 s2.heap.objs.size (.frz o6 (.dK ys))) s6.heap := fun b u q => by
   by_cases hb : b = s2.heap.objs.size
   ·subst hb
    rw [Ak] at q; cases q
    exact ⟨e6,z5,bigA,vs6,v5,d6⟩
   ·rw [Au hb] at q
    have o6 : ObjOk X.prog X.w H5 s6.heap b u := I6.hok b u q
    exact o6.stay (fun _ _ _ e => e) (fun c z => by rw [Au (nacc c _ z)]; exact z) fun c xs z => by rw [Au (nacc c _ z)]; exact z
  have IX : Ae X pins σ (upd H5 s2.heap.objs.size (.frz o6 (.dK ys))) s6 := I2.call' (show s6.os = s2.os from I6.os) un hok I6.bare fun b hb => let f := f2 b hb; ⟨f.2.2.2.1,f.2.1,f.2.2.2.2.1,f.2.2.2.2.2⟩
  have hCs : s2.heap.objs.size <= h3.objs.size := by rw [hsz3]; exact Nat.le_succ _
  refine fin _ _ H5 ys o6 s6 fa5 IX ⟨let ⟨m,hn,_⟩ := I6.loc; ⟨m,hn⟩,?_,?_,Nat.le_trans I2.sz hCs,fun x c ec z => ?_,fun p hp z => ?_⟩ q
  ·rw [Au (Ne.symm haC)]; exact I6.free
  ·exact Nat.ne_of_gt (Nat.lt_of_lt_of_le I2.lt hCs)
  ·obtain ⟨_,q⟩ := I2.cell x c ec
   have := q.lt
   rw [z] at this
   exact absurd (Nat.lt_of_lt_of_le this hCs) (Nat.lt_irrefl _)
  ·have := Heap.lt_size (I2.pin p hp).1
   rw [z] at this
   exact absurd (Nat.lt_of_lt_of_le this hCs) (Nat.lt_irrefl _)
 exact codeAny_compStart_dict (loop _ rfl) (T.self _ 0 _ _ _ st4 (loop _ rfl))
def OH (wi : TI) (cap : List (Option Nat)) (g : TG) (tt : TT) (tk te : TE) : TE := fun σ H Q => Kf wi cap g tt tk te σ H fun ys H' => ∀ p o,H' p = none -> Q (.ref p) (upd H' p (.frz o (.dK ys)))
theorem OI {X : Cx} {tg iter kx vx : Expr} {ifs : List Expr} {scope : Scope} {pos : Pos} {wi : TI} {g : TG} {tt : TT} {tk te : TE} (N' : List Str) (cap : List (Option Nat))
  (hc : X.calm = true) (hi : PI X tg iter wi) (B : AJ X.env.scope X.N scope N' cap) (hg : ∀ s H ex C,PG (AI X N' scope s H ex C) tg g) (ht : ∀ s H ex C,Bz (AI X N' scope s H ex C) ifs tt) (hk : ∀ s H ex C,PE (AI X N' scope s H ex C) kx tk) (he : ∀ s H ex C,PE (AI X N' scope s H ex C) vx te)
  (hnm : ∀ itv v,letOwnedTupleGo tg itv v = pure () := by intro _ _; rfl) (hs : ∀ x,foldedSetIterable iter X.env x = pure x := by intro _; rfl) : PE X (.DictComp kx vx [⟨tg,iter,ifs,0⟩] scope pos) (OH wi cap g tt tk te) := by
 intro pins s σ H Q I h
 rw [arm_eval_DictComp]
 refine OG (use := none) hc hi B hg ht hk he hnm hs I h fun acc C H ys o s' hn I' L q => ?_
 obtain ⟨m,hm⟩ := L.ns
 refine ⟨m,hm,fun h' hsb => ⟨.ref acc,_,I'.turned (t' := s'.toks) (it := C) (fun b o hb e => hsb.extBut b o hb e) L.free L.loc (.inr L.sz) L.cell L.pin,rfl,q acc o hn⟩⟩
end L2
end
section
namespace L2
open PySem PySem.Spec PyProof.Rows
variable {n : Int} {t u v : Tok} {Q : KL -> Hp -> Prop} {σ : St} {H : Hp} {te : TE} {cap : List (Option Nat)} {g : TG} {tt : TT}
section
variable {prog : Program} {w : World} {A : Around} {E : Value -> Shared -> Prop} {s : Shared}
theorem OJ : isSubtype (.type "range_iterator") (.type "reversed") = pure false := by rw [isSubtype_type]; kernel_rfl
abbrev C4 (n : Int) : Obj := { cls := .type "range_iterator",data := .fields #[rawInt (n - 1),rawInt n,rawInt (-1)] }
theorem EU {z : Int} (h1 : -5000 <= z) (h2 : z <= 5000) : Builtin.Range.rangeFitsLong z = true := by
 unfold Builtin.Range.rangeFitsLong
 simp only [Bool.and_eq_true,decide_eq_true_eq]
 omega
theorem OK (r : Addr) (n : Int) (t u v : Tok) (h0 : 0 <= n) (h1 : n <= 1000) :
  Meets (Builtin.«range.__reversed__» ⟨[.ref r],[]⟩) (fun _ R s => s.heap.get? r = some { cls := .type "range",dict := none,data := .fields #[.int 0 t,.int n u,.int 1 v],slots := #[] } /\ R (.ok (.ret (Value.ref s.heap.objs.size))) { s with heap := s.heap.push (C4 n),toks := s.toks }) :=
 .of_wp fun prog w A R s h => by
  obtain ⟨hp,g,d,tk,os⟩ := s; obtain ⟨hl,h⟩ := h
  have hn : Builtin.Range.rangeSize 0 n 1 = n := by rw [rangeSize_one]; split <;> omega
  have hsm : (Builtin.Range.rangeFitsLong 0 && Builtin.Range.rangeFitsLong n && Builtin.Range.rangeFitsLong 1 && Builtin.Range.rangeFitsLong (-1) && Builtin.Range.rangeFitsLong (0 - 1) && Builtin.Range.rangeFitsLong (Builtin.Range.rangeSize 0 n 1)) = true := by
   rw [hn,EU (by omega) (by omega),EU (by omega) (by omega),EU (by omega) (by omega),EU (by omega) (by omega),EU (by omega) (by omega)]; rfl
  wp_walk
  rw [hsm,hn]
  have e : (0 : Int) + (n - 1) * 1 = n - 1 := by omega
  rw [e]
  simp only [Bool.not_true,Bool.false_eq_true,if_false,if_true]
  wp_walk
  exact ⟨_,rfl,h⟩
theorem OL {l : Addr} {W : Value -> Shared -> Prop} (hl : IsRange s.heap l 0 n 1 t u v) (h0 : 0 <= n) (h1 : n <= 1000)
  (h : W (.ref s.heap.objs.size) { s with heap := s.heap.push (C4 n) }) : codeAny (model prog w) A (.call (.builtin "reversed.__new__") ⟨[.type "reversed",.ref l],[]⟩) (wants W E) s := by
 have ty : s.TypeIs (.ref l) "range" := ⟨_,hl,rfl⟩
 refine codeAny_call_builtin F.plain_reversed_new F.entry_reversed_new (wpAny_of_eq (F.newCall_reversed_1 (.ref l)) ?_)
 have cls := newClass_reversed (.ref l)
 have look := F.slot_range_reversed.lookup
 have bound := F.slot_range_reversed.bind (.ref l)
 unfold Builtin.«reversed.__new__»
 wp_walk using wpAny_of_eq cls,wpAny_specialOf ty look,wpAny_of_eq bound
 refine codeAny_mono (codeAny_call_builtin (R := fun r s' => r = .ok (.ret (.ref s.heap.objs.size)) /\ s' = { s with heap := s.heap.push (C4 n) }) F.slot_range_reversed.plain F.entry_range_reversed (F.slot_range_reversed.check _ _ _ _ _ _ _ _ ty (F.args_range_reversed_1 _) (OK l n t u v h0 h1 prog w A.in1 (fun r s' => r = .ok (.ret (.ref s.heap.objs.size)) /\ s' = { s with heap := s.heap.push (C4 n) }) s ⟨hl,rfl,rfl⟩))) fun r s' hr => ?_
 obtain ⟨rfl,rfl⟩ := hr
 exact wpAny_pure h
theorem OM {l : Addr} {Q : Value -> Shared -> Prop} (hl : IsRange s.heap l 0 n 1 t u v) (h0 : 0 <= n) (h1 : n <= 1000)
  (h : Q (.ref s.heap.objs.size) { s with heap := s.heap.push (C4 n) }) : wpAny (model prog w) A (call (.type "reversed") [.ref l]) Q E s := by
 refine callType_other (U := "range_iterator") (Q₁ := fun obj s₁ => obj = .ref s.heap.objs.size /\ s₁ = { s with heap := s.heap.push (C4 n) }) (by decide +kernel) F.create_reversed ⟨_,_,F.mro_reversed⟩ F.made_reversed OJ (F.typeCall_reversed_1 _) (OL hl h0 h1 ⟨rfl,rfl⟩) ?_
 rintro obj s₁ ⟨rfl,rfl⟩
 exact ⟨⟨_,Heap.get?_push_size _ rfl,rfl⟩,h⟩
end
section
variable {X : Cx} {tg : Expr}
def ON (ta : TA) : TI := fun σ H R => ta σ H fun vs H1 => ∃ n : Int,vs = [.int n] /\ 0 <= n /\ n <= 1000 /\ R (ER (n - 1) (-1) n.toNat) H1
theorem OO {a : Expr} {ta : TA} {p pos p2 pos2 : Pos} (hg0 : Gl X "reversed") (hm0 : X.mg "reversed" = none) (hg : Gl X "range") (hm : X.mg "range" = none) (ha : PA X [a] ta)
  (hs0 : starEach [.Call (.Name "range" p2) [a] [] pos2] X.env = [(false,eval (.Call (.Name "range" p2) [a] [] pos2) X.env)] := by rfl) (hs : starEach [a] X.env = [(false,eval a X.env)] := by rfl) :
  PI X tg (.Call (.Name "reversed" p) [.Call (.Name "range" p2) [a] [] pos2] [] pos) (ON ta) := by
 intro pins s σ H R I h
 refine Call_ (Cf I hg0 hm0 boot_reversed (PyProof.Rows.callWith_type1 (by
  rw [hs0]
  refine Calls.spliced_cons (Call_ (Cf I hg hm boot_range (PyProof.Rows.callWith_type1 (Ao (ha pos2 pins s σ H _ I h) fun us s1 ⟨vs,H1,I1,r1,q1⟩ => ?_) hs rfl)))
  obtain ⟨n,e,h0,hn,q⟩ := q1
  subst e
  cases r1 with
  | cons r rr =>
   cases rr
   obtain ⟨t,rfl⟩ := r
   refine call_range_1 (Calls.spliced_nil ?_)
   refine OM (IsRange.new ..) h0 hn ?_
   dsimp only
   have hz1 : (s1.heap.push { cls := .type "range",data := .fields #[.int 0 s1.toks,.int n t,.int 1 (s1.toks + 1)] }).objs.size = s1.heap.objs.size + 1 := Heap.size_push ..
   have kk : ∀ b ob,s1.heap.get? b = some ob -> ((s1.heap.push { cls := .type "range",data := .fields #[.int 0 s1.toks,.int n t,.int 1 (s1.toks + 1)] }).push (C4 n)).get? b = some ob := fun b ob q => Heap.get?_push_of_some _ (Heap.get?_push_of_some _ q)
   have hit : IsRangeIter ((s1.heap.push { cls := .type "range",data := .fields #[.int 0 s1.toks,.int n t,.int 1 (s1.toks + 1)] }).push (C4 n)) (s1.heap.objs.size + 1) (n - 1) n (-1) := by
    rw [<- hz1]; exact Heap.get?_push_size _ rfl
   rw [hz1]
   generalize (s1.heap.push { cls := .type "range",data := .fields #[.int 0 s1.toks,.int n t,.int 1 (s1.toks + 1)] }).push (C4 n) = h2 at kk hit
   refine wpAny_pyIter_rangeiter hit ⟨s1.heap.objs.size + 1,[s1.heap.objs.size + 1],_,_,H1,rfl,I1.kept (t' := _) kk,NL _ (n - 1) (-1) n.toNat,?_,fun b hb => ?_,q⟩
   ·have e1 : (n - 1) + ((0 : Nat) : Int) * (-1) = n - 1 := by omega
    have e2 : ((n.toNat : Nat) : Int) - ((0 : Nat) : Int) = n := by omega
    rw [e1,e2]; exact hit
   ·rw [List.mem_singleton.mp hb]; exact I1.fpOk (Nat.le_succ _) (I1.hok.fresh (Nat.le_succ _))) hs0 rfl))
def OP (i : Int) (te : TE) : TE := fun σ H Q => te σ H fun y H1 => ∀ d o,H1 d = none -> Q (.ref d) (upd H1 d (.frz o (.dK [(.inl i,y)])))
theorem Ae.trackN {pins : List (Addr × Obj)} {s : Shared} {a : Addr} {h' : Heap} {tk : Nat} {u : HO} (I : Ae X pins σ H s) (hf : Bp X pins H a)
  (k : ∀ b o,b ≠ a -> s.heap.get? b = some o -> h'.get? b = some o) (ha : ∃ o,h'.get? a = some o) (ok : ObjOk X.prog X.w (upd H a u) h' a u) : Ae X pins σ (upd H a u) { s with heap := h',toks := tk } := by
 have hfr : H a = none := hf.1
 have nT : ∀ b u,H b = some u -> b ≠ a := fun b u e => A6 e hfr
 refine I.step (g' := s.gens) (d' := s.drawn) (ch := [a]) (fun b hb => by rw [List.mem_singleton.mp hb]; exact ⟨hf.2.2.2.1,hf.2.1,hf.2.2.2.2.1,hf.2.2.2.2.2⟩) (fun b o _ _ hc e _ => k b o (fun z => hc (by rw [z]; simp)) e) (fun b o _ _ hc e _ => ⟨o.slots,k b o (fun z => hc (by rw [z]; simp)) e⟩)
  (fun b o hc e n => by rw [Au (fun z => hc (by rw [z]; simp))]; exact n) (fun b o hc e => ⟨o,k b o (fun z => hc (by rw [z]; simp)) e⟩) (fun b xs e => by rw [Au (nT b _ e)]; exact e) (fun b o xs e => by rw [Au (nT b _ e)]; exact e) (fun b ps e => ⟨#[],by rw [Au (nT b _ e),e]; simp⟩) (fun m hm => ?_) (fun b v e => ?_) I.bare
 ·obtain ⟨o,es,ep,ho,r⟩ := hm
  exact ⟨o,es,ep,k _ o (fun z => hf.2.1 z.symm) ho,r⟩
 ·by_cases hb : b = a
  ·subst hb
   rw [Ak] at e; cases e
   exact ok
  ·rw [Au hb] at e
   refine (I.hok b v e).stay (fun c v hc q => k c v ?_ q) (fun c q => by rw [Au (nT c _ q)]; exact q) fun c xs q => by rw [Au (nT c _ q)]; exact q
   rcases hc with z | z
   ·rw [z]; exact hb
   ·exact nT c _ z
theorem OQ {i : Int} {e : Expr} {pos p1 : Pos} {j1 : Nat} (he : PE X e te) : PE X (.Dict [some (.Constant (.int i) j1 p1)] [e] pos) (OP i te) := fun pins s σ H Q I h => by
 refine wpAny_Dict_walk (knd := Bn X.prog X.w) rfl rfl (by simp) (by show 1 <= 15; decide) ?_
 refine pairTrees_cons_walk (wpAny_Constant_int ?_)
 dsimp only
 have hd0 : (s.heap.push { cls := .type "dict",data := .dict #[] }).get? s.heap.objs.size = some { cls := .type "dict",data := .dict #[] } := Heap.get?_push_size _ rfl
 have f0 : Bp X pins H s.heap.objs.size := I.fpOk (Nat.le_refl _) (I.hok.fresh (Nat.le_refl _))
 have I0 : Ae X pins σ H { s with heap := s.heap.push { cls := .type "dict",data := .dict #[] },toks := s.toks + 1 } := I.kept (t' := s.toks + 1) fun b o q => Heap.get?_push_of_some _ q
 have I0' : Ae X ((s.heap.objs.size,{ cls := .type "dict",data := .dict #[] }) :: pins) σ H { s with heap := s.heap.push { cls := .type "dict",data := .dict #[] },toks := s.toks + 1 } := I0.pins_of fun p hp => by
  rcases List.mem_cons.mp hp with rfl | hp
  ·exact ⟨hd0,f0.1,f0.2.1,f0.2.2.1,fun v z => by
    have z' : Data.dict #[] = Data.cell v := z
    cases z'⟩
  ·exact I0.pin p (List.mem_append_right _ hp)
 refine Ao (he _ _ σ H _ I0' h) fun u s1 ⟨y,H1,I1,ry,q⟩ => pairTrees_nil_walk ?_
 have pn := I1.pin (s.heap.objs.size,{ cls := .type "dict",data := .dict #[] }) (List.mem_append_right _ List.mem_cons_self)
 have I2 : Ae X pins σ H1 s1 := I1.pins_of fun p hp => I1.pin p (List.mem_append_right _ (List.mem_cons_of_mem _ hp))
 have f1 : Bp X pins H1 s.heap.objs.size := ⟨pn.2.1,f0.2.1,f0.2.2.1,f0.2.2.2.1,f0.2.2.2.2.1,f0.2.2.2.2.2⟩
 have dn : s1.heap.DictOf (Bn X.prog X.w) s.heap.objs.size [] := Heap.DictOf.at (Heap.DictOf.new s.heap) fun o eo => by rw [hd0] at eo; cases eo; exact pn.1
 refine ⟨[(.inl i,u)],⟨Ip _ _ _ _,rfl,trivial⟩,dn,fun h' hm hsb => ?_⟩
 obtain ⟨o,es,ep,eo,r⟩ := id hm
 exact ⟨.ref s.heap.objs.size,_,I2.trackN (u := .frz o (.dK [(.inl i,y)])) (tk := _) f1 (fun b ob hb q => hsb.extBut b ob hb q) ⟨o,eo⟩ ⟨eo,by show 1 <= sizeLine; decide,beq_eq_false_iff_ne.mpr (Ne.symm (Nat.ne_of_lt I.big)),_,.cons ⟨rfl,ry⟩ .nil,hm⟩,rfl,q _ _ pn.2.1⟩
end
def Kg (J : It) (cap : List (Option Nat)) (g : TG) (tt : TT) (tk te : TE) (σ : St) (Q : KL -> Hp -> Prop) (H1 : Hp) : Prop :=
 ∃ W : Nat -> Nat -> KL -> Hp -> Prop,(∃ m,W 0 m [] H1) /\ ∀ i m ys H,W i m ys H ->
  (J.stop i H /\ Q ys H) \/
  (J.go i H /\ ys.length < sizeLine /\ ∃ N : KL -> Hp -> Prop, (∀ ys' H', N ys' H' -> ∃ m', m' < m /\ W (i + 1) m' ys' H') /\ ∀ x H', J.yld i H x H' -> g x (AM cap σ) H' fun σ2 H2 => Keep (AM cap σ) σ2 /\ tt σ2 H2 fun b H3 =>
   br b (tk σ2 H3 fun k H4 => te σ2 H4 fun y H5 => ∃ kk,k = kV kk /\ N (BT ys kk y) H5) (N ys H3))
theorem OR {J : It} {tk : TE} (n : Nat) (Pv : Nat -> KL -> Hp -> Prop) (hn : n <= 100000) (h0 : Pv 0 [] H) (hz : ∀ i ys H,Pv i ys H -> ys.length <= i)
  (hs : ∀ i ys H,i < n -> Pv i ys H -> J.go i H /\ ∀ x H',J.yld i H x H' -> g x (AM cap σ) H' fun σ2 H2 => Keep (AM cap σ) σ2 /\ tt σ2 H2 fun b H3 => br b (tk σ2 H3 fun k H4 => te σ2 H4 fun y H5 => ∃ kk,k = kV kk /\ Pv (i + 1) (BT ys kk y) H5) (Pv (i + 1) ys H3))
  (hd : ∀ ys H,Pv n ys H -> J.stop n H /\ Q ys H) : Kg J cap g tt tk te σ Q H := by
 refine ⟨fun i m ys H => m = n - i /\ i <= n /\ Pv i ys H,⟨n,by simp,Nat.zero_le _,h0⟩,?_⟩
 rintro i m ys H ⟨rfl,hi,p⟩
 by_cases hlt : i < n
 ·obtain ⟨a,b⟩ := hs i ys H hlt p
  refine .inr ⟨a,?_,Pv (i + 1),fun ys' H' p' => ⟨n - (i + 1),by omega,rfl,hlt,p'⟩,b⟩
  have := hz i ys H p
  have : (100000 : Nat) < sizeLine := by decide
  omega
 ·have e : i = n := by omega
  subst e
  exact .inl (hd ys H p)
theorem OS {K : PySem.W.Frag} {a : Addr} {xs : List V} {tk : TE} (Pv : Nat -> KL -> Hp -> Prop) (hn : xs.length <= 100000) (h0 : Pv 0 [] H) (hz : ∀ i ys H,Pv i ys H -> ys.length <= i)
  (hl : ∀ i ys H,i <= xs.length -> Pv i ys H -> Ac K H a xs)
  (hs : ∀ i x ys H,xs[i]? = some x -> Pv i ys H -> g x (AM cap σ) H fun σ2 H2 => Keep (AM cap σ) σ2 /\ tt σ2 H2 fun b H3 => br b (tk σ2 H3 fun k H4 => te σ2 H4 fun y H5 => ∃ kk,k = kV kk /\ Pv (i + 1) (BT ys kk y) H5) (Pv (i + 1) ys H3))
  (hd : ∀ ys H,Pv xs.length ys H -> Q ys H) : Kg (DA K a) cap g tt tk te σ Q H :=
 OR xs.length Pv hn h0 hz (fun i ys H hi p => ⟨⟨xs,xs[i],hl i ys H (Nat.le_of_lt hi) p,by simp [hi]⟩,fun x H' ⟨e,y⟩ => by subst e; exact hs i x ys _ (y xs (hl i ys _ (Nat.le_of_lt hi) p)) p⟩)
  fun ys H p => ⟨⟨xs,hl _ ys H (Nat.le_refl _) p,Nat.le_refl _⟩,hd ys H p⟩
end L2
end
section
namespace L2
open PySem PySem.Spec PyProof.Rows SeqAt
variable {s : Shared} {xs ys : Array Value}
def OrdAt (op : CmpOp) (A : Around) (s : Shared) (y x : Value) (b : Bool) : Prop :=
 ∀ (P : Program) (w : World) (E Q : Value -> Shared -> Prop),Q (.bool b) s -> wpAny (model P w) A (richCompare op y x) Q E s
inductive Told (op : CmpOp) (A : Around) (s : Shared) (last : Bool) : List (Value × Value) -> Bool -> Prop
 | none : Told op A s last [] last
 | same {x y : Value} {ps : List (Value × Value)} {r : Bool} : EqAt A s x y true -> Told op A s last ps r -> Told op A s last ((x,y) :: ps) r
 | unlike {x y : Value} {ps : List (Value × Value)} {r : Bool} : EqAt A s x y false -> OrdAt op A s x y r -> Told op A s last ((x,y) :: ps) r
theorem OrdAt.gtI {A : Around} (a b : Int) (t u : Tok) : OrdAt .Gt A s (.int a t) (.int b u) (decide (a > b)) := fun P w E Q h =>
 CmpOf.ints_gt (P := fun i v => v = if i = 0 then Value.int a t else Value.int b u) (fun i => if i = 0 then a else b) (fun i v e => by
  by_cases z : i = 0
  ·rw [if_pos z] at e ⊢; exact ⟨t,e⟩
  ·rw [if_neg z] at e ⊢; exact ⟨u,e⟩) 0 1 _ _ s Q E rfl rfl h
theorem OT (l b : Addr) (xs ys : Array Value) (n m : Nat) (d1 d2 : Option Addr) (s1 s2 : Array (Option Value)) (r : Bool) :
  Meets (Builtin.«tuple.__gt__» ⟨[.ref l,.ref b],[]⟩) (fun A R s => s.heap.get? l = some { cls := .type "tuple",dict := d1,data := .seq xs n,slots := s1 } /\ s.heap.get? b = some { cls := .type "tuple",dict := d2,data := .seq ys m,slots := s2 } /\ Told .Gt A.in1 s (decide (xs.size > ys.size)) (xs.toList.zip ys.toList) r /\ R (.ok (.ret (.bool r))) s) :=
 .of_wp fun P w A R s hyp => by
  obtain ⟨hp,g,d,tk,os⟩ := s
  obtain ⟨hl,hb,told,fin⟩ := hyp
  have tt := AutoSeq1.sub_tuple_tuple
  wp_walk using AutoSeq1.wpAny_loadPart' hl,AutoSeq1.wpAny_loadPart' hb,wpAny_forIn_list _ (fun left st s' => st.1 = none /\ s' = ⟨hp,g,d,tk,os⟩ /\ Told .Gt A.in1 ⟨hp,g,d,tk,os⟩ (decide (xs.size > ys.size)) left r) _
  case turn =>
   rintro ⟨x,y⟩ left st s' ⟨_,rfl,told⟩
   cases told with
   | same e more =>
    refine wpAny_bind (e P w _ _ ?_)
    wp_walk
    exact ⟨rfl,rfl,more⟩
   | unlike e o =>
    refine wpAny_bind (e P w _ _ ?_)
    unfold OrdAt at o
    wp_walk using o P w _ _
    exact ⟨_,rfl,fin⟩
  case fin =>
   rintro ⟨st1,st2⟩ s' ⟨hs,rfl,told⟩
   replace hs : st1 = _ := hs
   subst hs
   cases told
   wp_walk
   exact ⟨_,rfl,fin⟩
  case h => exact ⟨rfl,rfl,told⟩
theorem OrdAt.gtT {A : Around} {l b : Addr} {r : Bool} (hl : IsTup s.heap l xs) (hb : IsTup s.heap b ys) (hu : A.units < cLine) (told : Told .Gt A.in1 s (decide (xs.size > ys.size)) (xs.toList.zip ys.toList) r) : OrdAt .Gt A s (.ref l) (.ref b) r := fun P w E Q h => by
 obtain ⟨⟨c1,d1,t1,s1⟩,o1,e1,n,f1⟩ := hl
 obtain ⟨⟨c2,d2,t2,s2⟩,o2,e2,m,f2⟩ := hb
 cases e1; cases f1; cases e2; cases f2
 exact richCompare_meets_room (op := .Gt) ⟨_,o1,rfl⟩ ⟨_,o2,rfl⟩ F.slot_tuple_gt F.entry_tuple_gt (F.args_tuple_gt_2 _ _) (OT l b xs ys n m d1 d2 s1 s2 r) ⟨o1,o2,told,(fun z => nomatch z),h⟩ hu
theorem OrdAt.ltI {A : Around} (a b : Int) (t u : Tok) : OrdAt .Lt A s (.int a t) (.int b u) (decide (a < b)) := fun P w E Q h =>
 CmpOf.ints_lt (P := fun i v => v = if i = 0 then Value.int a t else Value.int b u) (fun i => if i = 0 then a else b) (fun i v e => by
  by_cases z : i = 0
  ·rw [if_pos z] at e ⊢; exact ⟨t,e⟩
  ·rw [if_neg z] at e ⊢; exact ⟨u,e⟩) 0 1 _ _ s Q E rfl rfl h
theorem OU (l b : Addr) (xs ys : Array Value) (n m : Nat) (d1 d2 : Option Addr) (s1 s2 : Array (Option Value)) (r : Bool) :
  Meets (Builtin.«tuple.__lt__» ⟨[.ref l,.ref b],[]⟩) (fun A R s => s.heap.get? l = some { cls := .type "tuple",dict := d1,data := .seq xs n,slots := s1 } /\ s.heap.get? b = some { cls := .type "tuple",dict := d2,data := .seq ys m,slots := s2 } /\ Told .Lt A.in1 s (decide (xs.size < ys.size)) (xs.toList.zip ys.toList) r /\ R (.ok (.ret (.bool r))) s) :=
 .of_wp fun P w A R s hyp => by
  obtain ⟨hp,g,d,tk,os⟩ := s
  obtain ⟨hl,hb,told,fin⟩ := hyp
  have tt := AutoSeq1.sub_tuple_tuple
  wp_walk using AutoSeq1.wpAny_loadPart' hl,AutoSeq1.wpAny_loadPart' hb,wpAny_forIn_list _ (fun left st s' => st.1 = none /\ s' = ⟨hp,g,d,tk,os⟩ /\ Told .Lt A.in1 ⟨hp,g,d,tk,os⟩ (decide (xs.size < ys.size)) left r) _
  case turn =>
   rintro ⟨x,y⟩ left st s' ⟨_,rfl,told⟩
   cases told with
   | same e more =>
    refine wpAny_bind (e P w _ _ ?_)
    wp_walk
    exact ⟨rfl,rfl,more⟩
   | unlike e o =>
    refine wpAny_bind (e P w _ _ ?_)
    unfold OrdAt at o
    wp_walk using o P w _ _
    exact ⟨_,rfl,fin⟩
  case fin =>
   rintro ⟨st1,st2⟩ s' ⟨hs,rfl,told⟩
   replace hs : st1 = _ := hs
   subst hs
   cases told
   wp_walk
   exact ⟨_,rfl,fin⟩
  case h => exact ⟨rfl,rfl,told⟩
theorem OrdAt.ltT {A : Around} {l b : Addr} {r : Bool} (hl : IsTup s.heap l xs) (hb : IsTup s.heap b ys) (hu : A.units < cLine) (told : Told .Lt A.in1 s (decide (xs.size < ys.size)) (xs.toList.zip ys.toList) r) : OrdAt .Lt A s (.ref l) (.ref b) r := fun P w E Q h => by
 obtain ⟨⟨c1,d1,t1,s1⟩,o1,e1,n,f1⟩ := hl
 obtain ⟨⟨c2,d2,t2,s2⟩,o2,e2,m,f2⟩ := hb
 cases e1; cases f1; cases e2; cases f2
 exact richCompare_meets_room (op := .Lt) ⟨_,o1,rfl⟩ ⟨_,o2,rfl⟩ F.slot_tuple_lt F.entry_tuple_lt (F.args_tuple_lt_2 _ _) (OU l b xs ys n m d1 d2 s1 s2 r) ⟨o1,o2,told,(fun z => nomatch z),h⟩ hu
end L2
end
section
namespace L2
open PySem PySem.Spec PyProof.Rows SeqAt
variable {bt : Value -> Value -> Bool} {P : Program} {E Q : Value -> Shared -> Prop} {s : Shared} {vs : List Value}
def better (bt : Value -> Value -> Bool) : Option Value -> Value -> Option Value
 | none,v => some v
 | some b,v => if bt v b then some v else some b
def EV : Option Value -> Array Value
 | none => #[]
 | some b => #[b,b]
abbrev Ed (c : Array Value) (k : Nat) : Obj := { cls := .type "list",dict := none,data := .seq c k,slots := #[] }
def CM (h0 h : Heap) : Prop := ∀ b o,h0.get? b = some o -> h.get? b = some o
theorem Ee (o : Option Value) : (EV o).size <= sizeLine := by cases o <;> (first | exact (show 0 <= sizeLine by decide) | exact (show 2 <= sizeLine by decide))
theorem Kh {o : Option Value} {v : Value} : better bt o v ≠ none := by
 cases o with
 | none => intro z; cases z
 | some b =>
  show (if bt v b then some v else some b) ≠ none
  cases bt v b <;> (intro z; cases z)
theorem OV {P : Program} {w : World} {A : Around} {R : Result -> Shared -> Prop} {I S : Addr} {fp wr : List Addr} {vs : List Value} {St : Nat -> Heap -> Prop} {h0 : Heap} {bt : Value -> Value -> Bool}
  (W : Walks P w A.in1 I fp wr vs.length (fun i v => vs[i]? = some v) St) (nS : S ∉ fp) (oS : h0.get? S = none) (ow : ∀ b ∈ wr,h0.get? b = none)
  (cmp : ∀ x y s,x ∈ vs -> y ∈ vs -> CM h0 s.heap -> OrdAt .Gt A.in1 s x y (bt x y)) :
  ∀ (k j : Nat) (s : Shared) (old : Option Value) (c : Nat),vs.length - j = k -> j <= vs.length -> St j s.heap -> CM h0 s.heap -> s.heap.get? S = some (Ed (EV old) c) -> (∀ b,old = some b -> b ∈ vs) -> (old = none -> j < vs.length) ->
   (∀ v h tk,(vs.drop j).foldl (better bt) old = some v -> (∀ b o,b ∉ wr -> b ≠ S -> s.heap.get? b = some o -> h.get? b = some o) -> R (.ok (.ret v)) { s with heap := h,toks := tk }) ->
   codeAny (model P w) A (.builtin "max.loop" ⟨[.ref I,.none,.ref S],[]⟩) R s := by
 have nw : S ∉ wr := fun z => nS (W.sub _ z)
 have again' : (toString "max" ++ toString ".loop" : String) = "max.loop" := by decide
 have apart : ∀ {b : Addr} {o : Obj},h0.get? b = some o -> b ∉ wr /\ b ≠ S := fun {b o} e => ⟨fun z => (by rw [ow b z] at e; cases e),fun z => (by rw [z,oS] at e; cases e)⟩
 intro k
 induction k with
 | zero =>
  intro j s old c hk hj st held at' mem some' fin
  obtain rfl : j = vs.length := by omega
  cases old with
  | none => exact absurd (some' rfl) (Nat.lt_irrefl _)
  | some b =>
   refine codeAny_builtin F.entry_max_loop ?_
   rw [Around.under_plainId F.plain_max_loop _]
   show wpAny _ A.in1 (seqItems? (.ref S) >>= _) _ _ s
   refine wpAny_bind (wpAny_seqItems at' rfl ?_)
   show wpAny _ A.in1 (tryCatch (pyNext (.ref I)) _ >>= _) _ _ s
   refine wpAny_bind (wpAny_tryCatch (W.done s _ _ st fun h1 tk kept => ?_))
   show wpAny _ A.in1 (updateSeq S (fun _ => #[]) >>= _) _ _ _
   refine wpAny_bind (wpAny_updateSeq (hz := Ee _) (kept S _ nw at') rfl (wpAny_bind (wpAny_letGo (wpAny_pure ?_))))
   exact fin b _ tk (by rw [List.drop_length]; rfl) fun a o ha hS e => (Heap.get?_update_other _ _ (Ne.symm hS)).trans (kept a o ha e)
 | succ k ih =>
  intro j s old c hk hj st held at' mem some' fin
  have lt : j < vs.length := by omega
  have dr : vs.drop j = vs[j] :: vs.drop (j + 1) := List.drop_eq_getElem_cons lt
  refine codeAny_builtin F.entry_max_loop ?_
  rw [Around.under_plainId F.plain_max_loop _]
  show wpAny _ A.in1 (seqItems? (.ref S) >>= _) _ _ s
  refine wpAny_bind (wpAny_seqItems at' rfl ?_)
  show wpAny _ A.in1 (tryCatch (pyNext (.ref I)) _ >>= _) _ _ s
  refine wpAny_bind (wpAny_tryCatch (W.item j s _ _ lt st fun v h1 tk got st1 kept => ?_))
  have ev : v = vs[j] := by rw [List.getElem?_eq_getElem lt] at got; exact (Option.some.inj got).symm
  have mv : v ∈ vs := by rw [ev]; exact List.getElem_mem lt
  have at1 := kept S _ nw at'
  have held1 : CM h0 h1 := fun b o e => kept b o (apart e).1 (held b o e)
  have next : ∀ (h2 : Heap) (tk2 c2 : Nat),h2.get? S = some (Ed (EV (better bt old v)) c2) -> (∀ b o,b ≠ S -> h1.get? b = some o -> h2.get? b = some o) ->
    codeAny (model P w) A (.builtin "max.loop" ⟨[.ref I,.none,.ref S],[]⟩) R { s with heap := h2,toks := tk2 } := fun h2 tk2 c2 at2 k2 => by
   refine ih (j + 1) { s with heap := h2,toks := tk2 } (better bt old v) c2 (by omega) lt (W.frame _ _ _ st1 fun b hb o e => k2 b o (fun z => nS (by rw [<- z]; exact hb)) e) (fun b o e => k2 b o (apart e).2 (held1 b o e)) at2 (fun b e => ?_) (fun e => absurd e Kh) fun u h3 tk3 e k3 => fin u h3 tk3 (by rw [dr,List.foldl_cons,<- ev]; exact e) fun b o hb hS q => k3 b o hb hS (k2 b o hS (kept b o hb q))
   cases old with
   | none => cases e; exact mv
   | some b0 =>
    have e' : (if bt v b0 then some v else some b0) = some b := e
    split at e'
    ·cases e'; exact mv
    ·cases e'; exact mem _ rfl
  cases old with
  | none =>
   show wpAny _ A.in1 (updateSeq S (fun _ => #[v,v]) >>= _) _ _ _
   refine wpAny_bind (wpAny_updateSeq (hz := Ee _) at1 rfl ?_)
   rw [again']
   exact wpAny_pure ⟨plainId_quiet F.plain_max_loop _,next _ tk _ (Heap.get?_update_self _ at1 rfl) fun b o hb e => (Heap.get?_update_other _ _ (Ne.symm hb)).trans e⟩
  | some b =>
   show wpAny _ A.in1 (tryCatch (holding [v,v] (richCompare .Gt v b >>= _)) _ >>= _) _ _ _
   refine wpAny_bind (wpAny_tryCatch (wpAny_holding (wpAny_bind (cmp v b _ mv (mem b rfl) held1 P w _ _ ?_))))
   refine wpAny_bind (wpAny_holding (wpAny_truthy_bool (wpAny_bind (wpAny_letGo (wpAny_pure ?_)))))
   cases up : bt v b with
   | true =>
    have eb : better bt (some b) v = some v := (show (if bt v b then some v else some b) = _ from by rw [up]; rfl)
    rw [if_pos rfl]
    refine wpAny_bind (wpAny_updateSeq (hz := Ee _) at1 rfl (wpAny_bind (wpAny_letGo ?_)))
    rw [again']
    exact wpAny_pure ⟨plainId_quiet F.plain_max_loop _,next _ tk _ (by rw [eb]; exact Heap.get?_update_self _ at1 rfl) fun b o hb e => (Heap.get?_update_other _ _ (Ne.symm hb)).trans e⟩
   | false =>
    have eb : better bt (some b) v = some b := (show (if bt v b then some v else some b) = _ from by rw [up]; rfl)
    rw [if_neg Bool.false_ne_true]
    refine wpAny_bind (wpAny_letGo ?_)
    rw [again']
    exact wpAny_pure ⟨plainId_quiet F.plain_max_loop _,next h1 tk c (by rw [eb]; exact at1) fun b o hb e => e⟩
theorem OW {w : World} {A : Around} {l : Addr} (hh : A.handled = none) (hl : s.heap.IsList l vs.toArray) (ne : vs ≠ [])
  (cmp : ∀ x y s',x ∈ vs -> y ∈ vs -> CM s.heap s'.heap -> OrdAt .Gt A.in1 s' x y (bt x y))
  (fin : ∀ v h tk,vs.foldl (better bt) none = some v -> (∀ b o,s.heap.get? b = some o -> h.get? b = some o) -> Q v { s with heap := h,toks := tk }) : wpAny (model P w) A (call (.builtin "max") [.ref l]) Q E s := by
 have again' : (toString "max" ++ toString ".loop" : String) = "max.loop" := by decide
 refine call_function_tree F.kind_max F.plain_max F.entry_max (F.args_max1 _) ?_
 show wpAny _ A.in1 (Builtin.Builtins.bindParams "max" ["key","default"] 0 ⟨[],[]⟩ >>= _) _ _ s
 refine wpAny_bind (wpAny_of_eq (a := [none,none]) rfl (wpAny_bind (wpAny_pure (wpAny_bind ?_))))
 obtain ⟨ol,eol,_⟩ := id hl
 have lt := Heap.lt_size eol
 refine wpAny_pyIter_list hl (wpAny_bind (wpAny_newObj_type ?_))
 rw [again']
 dsimp only
 have z1 : (s.heap.push { cls := .type "list_iterator",data := .fields #[.ref l,.int 0 0] }).objs.size = s.heap.objs.size + 1 := Heap.size_push ..
 have new0 : ∀ a,s.heap.objs.size <= a -> s.heap.get? a = none := fun a ha => by
  cases e : s.heap.get? a with
  | none => rfl
  | some o => exact absurd (Heap.lt_size e) (Nat.not_lt.mpr ha)
 have kk : ∀ b o,s.heap.get? b = some o -> ((s.heap.push { cls := .type "list_iterator",data := .fields #[.ref l,.int 0 0] }).push (Ed #[] 0)).get? b = some o := fun b o e => Heap.get?_push_of_some _ (Heap.get?_push_of_some _ e)
 have sz : vs.toArray.size = vs.length := by simp
 have W := Walks.list (prog := P) (w := w) (A := A.in1) hh s.heap.objs.size l (Nat.ne_of_lt lt) vs.toArray
 have eP : (fun (i : Nat) (v : Value) => vs.toArray[i]? = some v) = (fun i v => vs[i]? = some v) := by funext i v; simp
 rw [sz,eP] at W
 rw [z1]
 refine wpAny_pure ⟨plainId_quiet F.plain_max_loop _,OV (h0 := s.heap) (bt := bt) (S := s.heap.objs.size + 1) W (fun z => by
  rcases List.mem_cons.mp z with z | z
  ·exact absurd z (Nat.succ_ne_self _)
  ·exact absurd (List.mem_singleton.mp z) (Nat.ne_of_gt (Nat.lt_succ_of_lt lt))) (new0 _ (Nat.le_succ _)) (fun b hb => by rw [List.mem_singleton.mp hb]; exact new0 _ (Nat.le_refl _)) cmp vs.length 0 _ none 0 rfl (Nat.zero_le _) ?_ kk (by rw [<- z1]; exact Heap.get?_push_size _ rfl) (fun b e => nomatch e) (fun _ => List.length_pos_iff.mpr ne) fun v h tk e k2 => fin v h tk e fun b o q => k2 b o (fun z => by rw [List.mem_singleton.mp z,new0 _ (Nat.le_refl _)] at q; cases q) (fun z => by rw [z,new0 _ (Nat.le_succ _)] at q; cases q) (kk b o q)⟩
 exact ⟨⟨_,Heap.get?_push_of_some _ (Heap.get?_push_size _ rfl),rfl,rfl⟩,hl.at fun o e => kk _ o e⟩
theorem OX {P : Program} {w : World} {A : Around} {R : Result -> Shared -> Prop} {I S : Addr} {fp wr : List Addr} {vs : List Value} {St : Nat -> Heap -> Prop} {h0 : Heap} {bt : Value -> Value -> Bool}
  (W : Walks P w A.in1 I fp wr vs.length (fun i v => vs[i]? = some v) St) (nS : S ∉ fp) (oS : h0.get? S = none) (ow : ∀ b ∈ wr,h0.get? b = none)
  (cmp : ∀ x y s,x ∈ vs -> y ∈ vs -> CM h0 s.heap -> OrdAt .Lt A.in1 s x y (bt x y)) :
  ∀ (k j : Nat) (s : Shared) (old : Option Value) (c : Nat),vs.length - j = k -> j <= vs.length -> St j s.heap -> CM h0 s.heap -> s.heap.get? S = some (Ed (EV old) c) -> (∀ b,old = some b -> b ∈ vs) -> (old = none -> j < vs.length) ->
   (∀ v h tk,(vs.drop j).foldl (better bt) old = some v -> (∀ b o,b ∉ wr -> b ≠ S -> s.heap.get? b = some o -> h.get? b = some o) -> R (.ok (.ret v)) { s with heap := h,toks := tk }) ->
   codeAny (model P w) A (.builtin "min.loop" ⟨[.ref I,.none,.ref S],[]⟩) R s := by
 have nw : S ∉ wr := fun z => nS (W.sub _ z)
 have again' : (toString "min" ++ toString ".loop" : String) = "min.loop" := by decide
 have apart : ∀ {b : Addr} {o : Obj},h0.get? b = some o -> b ∉ wr /\ b ≠ S := fun {b o} e => ⟨fun z => (by rw [ow b z] at e; cases e),fun z => (by rw [z,oS] at e; cases e)⟩
 intro k
 induction k with
 | zero =>
  intro j s old c hk hj st held at' mem some' fin
  obtain rfl : j = vs.length := by omega
  cases old with
  | none => exact absurd (some' rfl) (Nat.lt_irrefl _)
  | some b =>
   refine codeAny_builtin F.entry_min_loop ?_
   rw [Around.under_plainId F.plain_min_loop _]
   show wpAny _ A.in1 (seqItems? (.ref S) >>= _) _ _ s
   refine wpAny_bind (wpAny_seqItems at' rfl ?_)
   show wpAny _ A.in1 (tryCatch (pyNext (.ref I)) _ >>= _) _ _ s
   refine wpAny_bind (wpAny_tryCatch (W.done s _ _ st fun h1 tk kept => ?_))
   show wpAny _ A.in1 (updateSeq S (fun _ => #[]) >>= _) _ _ _
   refine wpAny_bind (wpAny_updateSeq (hz := Ee _) (kept S _ nw at') rfl (wpAny_bind (wpAny_letGo (wpAny_pure ?_))))
   exact fin b _ tk (by rw [List.drop_length]; rfl) fun a o ha hS e => (Heap.get?_update_other _ _ (Ne.symm hS)).trans (kept a o ha e)
 | succ k ih =>
  intro j s old c hk hj st held at' mem some' fin
  have lt : j < vs.length := by omega
  have dr : vs.drop j = vs[j] :: vs.drop (j + 1) := List.drop_eq_getElem_cons lt
  refine codeAny_builtin F.entry_min_loop ?_
  rw [Around.under_plainId F.plain_min_loop _]
  show wpAny _ A.in1 (seqItems? (.ref S) >>= _) _ _ s
  refine wpAny_bind (wpAny_seqItems at' rfl ?_)
  show wpAny _ A.in1 (tryCatch (pyNext (.ref I)) _ >>= _) _ _ s
  refine wpAny_bind (wpAny_tryCatch (W.item j s _ _ lt st fun v h1 tk got st1 kept => ?_))
  have ev : v = vs[j] := by rw [List.getElem?_eq_getElem lt] at got; exact (Option.some.inj got).symm
  have mv : v ∈ vs := by rw [ev]; exact List.getElem_mem lt
  have at1 := kept S _ nw at'
  have held1 : CM h0 h1 := fun b o e => kept b o (apart e).1 (held b o e)
  have next : ∀ (h2 : Heap) (tk2 c2 : Nat),h2.get? S = some (Ed (EV (better bt old v)) c2) -> (∀ b o,b ≠ S -> h1.get? b = some o -> h2.get? b = some o) ->
    codeAny (model P w) A (.builtin "min.loop" ⟨[.ref I,.none,.ref S],[]⟩) R { s with heap := h2,toks := tk2 } := fun h2 tk2 c2 at2 k2 => by
   refine ih (j + 1) { s with heap := h2,toks := tk2 } (better bt old v) c2 (by omega) lt (W.frame _ _ _ st1 fun b hb o e => k2 b o (fun z => nS (by rw [<- z]; exact hb)) e) (fun b o e => k2 b o (apart e).2 (held1 b o e)) at2 (fun b e => ?_) (fun e => absurd e Kh) fun u h3 tk3 e k3 => fin u h3 tk3 (by rw [dr,List.foldl_cons,<- ev]; exact e) fun b o hb hS q => k3 b o hb hS (k2 b o hS (kept b o hb q))
   cases old with
   | none => cases e; exact mv
   | some b0 =>
    have e' : (if bt v b0 then some v else some b0) = some b := e
    split at e'
    ·cases e'; exact mv
    ·cases e'; exact mem _ rfl
  cases old with
  | none =>
   show wpAny _ A.in1 (updateSeq S (fun _ => #[v,v]) >>= _) _ _ _
   refine wpAny_bind (wpAny_updateSeq (hz := Ee _) at1 rfl ?_)
   rw [again']
   exact wpAny_pure ⟨plainId_quiet F.plain_min_loop _,next _ tk _ (Heap.get?_update_self _ at1 rfl) fun b o hb e => (Heap.get?_update_other _ _ (Ne.symm hb)).trans e⟩
  | some b =>
   show wpAny _ A.in1 (tryCatch (holding [v,v] (richCompare .Lt v b >>= _)) _ >>= _) _ _ _
   refine wpAny_bind (wpAny_tryCatch (wpAny_holding (wpAny_bind (cmp v b _ mv (mem b rfl) held1 P w _ _ ?_))))
   refine wpAny_bind (wpAny_holding (wpAny_truthy_bool (wpAny_bind (wpAny_letGo (wpAny_pure ?_)))))
   cases up : bt v b with
   | true =>
    have eb : better bt (some b) v = some v := (show (if bt v b then some v else some b) = _ from by rw [up]; rfl)
    rw [if_pos rfl]
    refine wpAny_bind (wpAny_updateSeq (hz := Ee _) at1 rfl (wpAny_bind (wpAny_letGo ?_)))
    rw [again']
    exact wpAny_pure ⟨plainId_quiet F.plain_min_loop _,next _ tk _ (by rw [eb]; exact Heap.get?_update_self _ at1 rfl) fun b o hb e => (Heap.get?_update_other _ _ (Ne.symm hb)).trans e⟩
   | false =>
    have eb : better bt (some b) v = some b := (show (if bt v b then some v else some b) = _ from by rw [up]; rfl)
    rw [if_neg Bool.false_ne_true]
    refine wpAny_bind (wpAny_letGo ?_)
    rw [again']
    exact wpAny_pure ⟨plainId_quiet F.plain_min_loop _,next h1 tk c (by rw [eb]; exact at1) fun b o hb e => e⟩
theorem OY {w : World} {A : Around} {l : Addr} (hh : A.handled = none) (hl : s.heap.IsList l vs.toArray) (ne : vs ≠ [])
  (cmp : ∀ x y s',x ∈ vs -> y ∈ vs -> CM s.heap s'.heap -> OrdAt .Lt A.in1 s' x y (bt x y))
  (fin : ∀ v h tk,vs.foldl (better bt) none = some v -> (∀ b o,s.heap.get? b = some o -> h.get? b = some o) -> Q v { s with heap := h,toks := tk }) : wpAny (model P w) A (call (.builtin "min") [.ref l]) Q E s := by
 have again' : (toString "min" ++ toString ".loop" : String) = "min.loop" := by decide
 refine call_function_tree F.kind_min F.plain_min F.entry_min (F.args_min1 _) ?_
 show wpAny _ A.in1 (Builtin.Builtins.bindParams "min" ["key","default"] 0 ⟨[],[]⟩ >>= _) _ _ s
 refine wpAny_bind (wpAny_of_eq (a := [none,none]) rfl (wpAny_bind (wpAny_pure (wpAny_bind ?_))))
 obtain ⟨ol,eol,_⟩ := id hl
 have lt := Heap.lt_size eol
 refine wpAny_pyIter_list hl (wpAny_bind (wpAny_newObj_type ?_))
 rw [again']
 dsimp only
 have z1 : (s.heap.push { cls := .type "list_iterator",data := .fields #[.ref l,.int 0 0] }).objs.size = s.heap.objs.size + 1 := Heap.size_push ..
 have new0 : ∀ a,s.heap.objs.size <= a -> s.heap.get? a = none := fun a ha => by
  cases e : s.heap.get? a with
  | none => rfl
  | some o => exact absurd (Heap.lt_size e) (Nat.not_lt.mpr ha)
 have kk : ∀ b o,s.heap.get? b = some o -> ((s.heap.push { cls := .type "list_iterator",data := .fields #[.ref l,.int 0 0] }).push (Ed #[] 0)).get? b = some o := fun b o e => Heap.get?_push_of_some _ (Heap.get?_push_of_some _ e)
 have sz : vs.toArray.size = vs.length := by simp
 have W := Walks.list (prog := P) (w := w) (A := A.in1) hh s.heap.objs.size l (Nat.ne_of_lt lt) vs.toArray
 have eP : (fun (i : Nat) (v : Value) => vs.toArray[i]? = some v) = (fun i v => vs[i]? = some v) := by funext i v; simp
 rw [sz,eP] at W
 rw [z1]
 refine wpAny_pure ⟨plainId_quiet F.plain_min_loop _,OX (h0 := s.heap) (bt := bt) (S := s.heap.objs.size + 1) W (fun z => by
  rcases List.mem_cons.mp z with z | z
  ·exact absurd z (Nat.succ_ne_self _)
  ·exact absurd (List.mem_singleton.mp z) (Nat.ne_of_gt (Nat.lt_succ_of_lt lt))) (new0 _ (Nat.le_succ _)) (fun b hb => by rw [List.mem_singleton.mp hb]; exact new0 _ (Nat.le_refl _)) cmp vs.length 0 _ none 0 rfl (Nat.zero_le _) ?_ kk (by rw [<- z1]; exact Heap.get?_push_size _ rfl) (fun b e => nomatch e) (fun _ => List.length_pos_iff.mpr ne) fun v h tk e k2 => fin v h tk e fun b o q => k2 b o (fun z => by rw [List.mem_singleton.mp z,new0 _ (Nat.le_refl _)] at q; cases q) (fun z => by rw [z,new0 _ (Nat.le_succ _)] at q; cases q) (kk b o q)⟩
 exact ⟨⟨_,Heap.get?_push_of_some _ (Heap.get?_push_size _ rfl),rfl,rfl⟩,hl.at fun o e => kk _ o e⟩
end L2
end
section
namespace L2
open PySem PySem.Spec PyProof.Rows SeqAt
variable {h : Heap} {u v : Value} {s : Shared} {y : List Addr} {X : Cx} {k : Nat}
inductive Cmp : PyData -> PyData -> Prop
 | int (a b : Int) : Cmp (.int a) (.int b)
 | row (as bs : List Int) : Cmp (.tuple (as.map .int)) (.tuple (bs.map .int))
def Ki : ∀ (as : List Int),PyData.canLayAll0 (as.map .int) = true /\ PyData.hasDictAll (as.map .int) = false /\ PyData.depthAll (as.map .int) = 0
 | [] => ⟨rfl,rfl,rfl⟩
 | a :: as => by
  obtain ⟨h1,h2,h3⟩ := Ki as
  refine ⟨?_,?_,?_⟩
  ·show PyData.canLayAll0 (.int a :: as.map .int) = true
   unfold PyData.canLayAll0; rw [h1]; rfl
  ·show PyData.hasDictAll (.int a :: as.map .int) = false
   unfold PyData.hasDictAll; rw [h2]; rfl
  ·show PyData.depthAll (.int a :: as.map .int) = 0
   unfold PyData.depthAll; rw [h3]; rfl
theorem Cmp.left {d e : PyData} (h : Cmp d e) : d.canLay0 = true /\ d.hasDict = false /\ d.depth <= 1 := by
 cases h with
 | int a b => exact ⟨rfl,rfl,Nat.zero_le _⟩
 | row as bs =>
  obtain ⟨h1,h2,h3⟩ := Ki as
  refine ⟨?_,?_,?_⟩
  ·unfold PyData.canLay0; exact h1
  ·unfold PyData.hasDict; exact h2
  ·unfold PyData.depth; rw [h3]; exact Nat.le_refl _
theorem Cmp.symm {d e : PyData} (h : Cmp d e) : Cmp e d := by
 cases h with
 | int a b => exact .int b a
 | row as bs => exact .row bs as
theorem C5 : ∀ {us : List Value} {ds : List PyData} {as : List Addr},ReadsAll h us ds as -> us.length = ds.length
 | _,_,_,.nil => rfl
 | _,_,_,.cons _ t => by rw [List.length_cons,List.length_cons,C5 t]
theorem Cm {ds : List PyData} {as : List Addr} (r : Reads h u (.tuple ds) as) : ∃ a vs,u = .ref a /\ IsTup h a vs.toArray /\ ReadsAll h vs ds as := by
 cases r with
 | tuple e c d ra => exact ⟨_,_,rfl,⟨_,e,c,_,by rw [d]⟩,ra⟩
theorem FZ {bt : Value -> Value -> Bool} {f : Value -> Int} {S : Value -> Prop} (h1 : ∀ x y,S x -> S y -> bt x y = true -> f y <= f x) (h2 : ∀ x y,S x -> S y -> bt x y = false -> f x <= f y) : ∀ (l : List Value) (b v : Value),S b -> (∀ x ∈ l,S x) -> l.foldl (better bt) (some b) = some v -> (v = b \/ v ∈ l) /\ f b <= f v /\ ∀ x ∈ l,f x <= f v
 | [],b,v,_,_,e => by cases e; exact ⟨.inl rfl,Int.le_refl _,fun x hx => nomatch hx⟩
 | y :: l,b,v,sb,sl,e => by
  rw [List.foldl_cons] at e
  have e' : l.foldl (better bt) (if bt y b then some y else some b) = some v := e
  have sy := sl y List.mem_cons_self
  have sl' : ∀ x ∈ l,S x := fun x hx => sl x (List.mem_cons_of_mem _ hx)
  cases c : bt y b with
  | true =>
   rw [c,if_pos rfl] at e'
   obtain ⟨m,a,q⟩ := FZ h1 h2 l y v sy sl' e'
   refine ⟨.inr (m.elim (fun z => by rw [z]; exact List.mem_cons_self) fun z => List.mem_cons_of_mem _ z),Int.le_trans (h1 y b sy sb c) a,fun x hx => ?_⟩
   rcases List.mem_cons.mp hx with rfl | hx
   ·exact a
   ·exact q x hx
  | false =>
   rw [c,if_neg Bool.false_ne_true] at e'
   obtain ⟨m,a,q⟩ := FZ h1 h2 l b v sb sl' e'
   refine ⟨m.elim .inl fun z => .inr (List.mem_cons_of_mem _ z),a,fun x hx => ?_⟩
   rcases List.mem_cons.mp hx with rfl | hx
   ·exact Int.le_trans (h2 x b sy sb c) a
   ·exact q x hx
def F0 (last : Bool) : List Int -> List Int -> Bool
 | a :: as,b :: bs => if a = b then F0 last as bs else decide (a > b)
 | _,_ => last
theorem Kj {A : Around} {s : Shared} {last : Bool} : ∀ {as bs : List Int} {us ws : List Value} {x y : List Addr},ReadsAll s.heap us (as.map .int) x -> ReadsAll s.heap ws (bs.map .int) y -> Told .Gt A s last (us.zip ws) (F0 last as bs)
 | [],_,_,_,_,_,r,_ => by cases r; exact .none
 | _ :: _,[],_,_,_,_,r,q => by cases q; rw [List.zip_nil_right]; exact .none
 | a :: as,b :: bs,us,ws,x,y,r,q => by
  cases r with
  | cons r1 r2 =>
   cases q with
   | cons q1 q2 =>
    cases r1 with
    | int i t =>
     cases q1 with
     | int j u =>
      rw [List.zip_cons_cons]
      unfold F0
      split
      ·rename_i e
       subst e
       refine .same ?_ (Kj r2 q2)
       have := EqAt.int_int (A := A) (s := s) a t a u
       simpa using this
      ·rename_i e
       refine .unlike ?_ (OrdAt.gtI a b t u)
       have := EqAt.int_int (A := A) (s := s) a t b u
       rw [show (a == b) = false from by simpa using e] at this
       exact this
def HL (d e : PyData) : Bool := match d,e with
 | .int a,.int b => decide (a > b)
 | .tuple xs,.tuple ys => F0 (decide (xs.length > ys.length)) (xs.filterMap fun | .int i => some i | _ => none) (ys.filterMap fun | .int i => some i | _ => none)
 | _,_ => false
theorem HM : ∀ (as : List Int),((as.map PyData.int).filterMap fun | .int i => some i | _ => none) = as
 | [] => rfl
 | a :: as => by rw [List.map_cons,List.filterMap_cons]; simp only; rw [HM as]
theorem OZ {A : Around} {d e : PyData} {x : List Addr} (h : Cmp d e) (r : Reads s.heap u d x) (q : Reads s.heap v e y) (hu : A.units < cLine) : OrdAt .Gt A s u v (HL d e) := by
 cases h with
 | int a b =>
  cases r with
  | int i t =>
   cases q with
   | int j t' => exact OrdAt.gtI a b t t'
 | row as bs =>
  obtain ⟨a,us,rfl,hl,ra⟩ := Cm r
  obtain ⟨b,ws,rfl,hb,rb⟩ := Cm q
  have l1 : us.length = as.length := by have := C5 ra; rw [List.length_map] at this; exact this
  have l2 : ws.length = bs.length := by have := C5 rb; rw [List.length_map] at this; exact this
  refine OrdAt.gtT hl hb hu ?_
  have := Kj (A := A.in1) (last := decide (us.length > ws.length)) ra rb
  unfold HL
  dsimp only
  rw [HM,HM,List.length_map,List.length_map,<- l1,<- l2]
  simpa using this
def Ef (last : Bool) : List PyData -> List PyData -> Bool
 | d :: ds,e :: es => if PyData.eqv d e then Ef last ds es else HL d e
 | _,_ => last
theorem Kk {A : Around} {s : Shared} {last : Bool} (hu : A.units + 5 < cLine) : ∀ {ds es : List PyData} {us ws : List Value} {x y : List Addr},Paired Cmp ds es -> ReadsAll s.heap us ds x -> ReadsAll s.heap ws es y -> Told .Gt A s last (us.zip ws) (Ef last ds es)
 | _,_,_,_,_,_,.nil,r,q => by cases r; exact .none
 | d :: ds,e :: es,us,ws,x,y,.cons c t,r,q => by
  cases r with
  | cons r1 r2 =>
   cases q with
   | cons q1 q2 =>
    rw [List.zip_cons_cons]
    obtain ⟨c1,c2,c3⟩ := c.left
    obtain ⟨e1,e2,e3⟩ := c.symm.left
    have eq := eqAt_reads d e A s _ _ _ _ r1 q1 c1 e1 (by omega)
    unfold Ef
    cases z : PyData.eqv d e with
    | true => rw [z] at eq; exact .same eq (Kk hu t r2 q2)
    | false => rw [z] at eq; exact .unlike eq (OZ c r1 q1 (by omega))
theorem Kl (hc : X.calm = true) (hr : Be k X.A) : Bx X (.builtin "max") (fun xs H Q => ∃ (p l : Addr) (fs : List (Int × List PyData)) (vs : List V),xs = [.ref l] /\ H l = some (.lst vs) /\ Ad p H (fs.map fun q => .tuple (.int q.1 :: q.2)) vs /\ fs ≠ [] /\ (∀ q ∈ fs,∀ q' ∈ fs,Paired Cmp q.2 q'.2) /\
  ∀ (i : Nat) q v,fs[i]? = some q -> vs[i]? = some v -> (∀ q' ∈ fs,q'.1 <= q.1) -> Q v H) := by
 intro pins s σ H xs us Q I r h
 obtain ⟨p,l,fs,vs,rfl,hl,rs,ne,cm,q⟩ := h
 obtain ⟨u,rfl,ru⟩ := r.one
 cases ru
 obtain ⟨its,rv,pl,hz⟩ := I.list (An.of hl)
 have un := hr.un
 have lv := rv.length
 have lf := rs.len
 rw [List.length_map] at lf
 -- what each value reads
 have rd : ∀ (i : Nat) (x : Value),its[i]? = some x -> ∃ q v as,fs[i]? = some q /\ vs[i]? = some v /\ AA v x /\ Reads s.heap x (.tuple (.int q.1 :: q.2)) as := fun i x hx => by
  have hi := (List.getElem?_eq_some_iff.mp hx).1
  have hf : fs[i]? = some fs[i] := List.getElem?_eq_getElem (by omega)
  obtain ⟨v,hv,rep⟩ := rs.get (i := i) (d := .tuple (.int (fs[i]).1 :: (fs[i]).2)) (by rw [List.getElem?_map,hf]; rfl)
  obtain ⟨x',hx',rx⟩ := rv.get hv
  rw [hx] at hx'; cases hx'
  have mem := List.getElem_mem (l := fs) (n := i) (by omega)
  have nd : (PyData.tuple (.int (fs[i]).1 :: (fs[i]).2)).hasDict = false := by
   have := cm _ mem _ mem
   generalize (fs[i]).2 = ds at this
   have all : ∀ {ds es : List PyData},Paired Cmp ds es -> PyData.hasDictAll ds = false := by
    intro ds es t
    induction t with
    | nil => rfl
    | cons c _ ih => unfold PyData.hasDictAll; rw [c.left.2.1,ih]; rfl
   unfold PyData.hasDict PyData.hasDictAll
   rw [all this]; rfl
  obtain ⟨as,rr⟩ := Aa.reads I _ v x nd rep rx
  exact ⟨_,v,as,hf,hv,rx,rr⟩
 have get : ∀ x ∈ its,∃ q as,q ∈ fs /\ Reads s.heap x (.tuple (.int q.1 :: q.2)) as := fun x hx => by
  obtain ⟨i,hi⟩ := List.getElem?_of_mem hx
  obtain ⟨q,v,as,hf,_,_,r⟩ := rd i x hi
  exact ⟨q,as,List.mem_of_getElem? hf,r⟩
 -- the first number of a value
 have first : ∀ x,∃ n : Int,∀ (q : Int) (ds : List PyData) (as : List Addr),Reads s.heap x (.tuple (.int q :: ds)) as -> q = n := fun x => by
  by_cases z : ∃ (q : Int) (ds : List PyData) (as : List Addr),Reads s.heap x (.tuple (.int q :: ds)) as
  ·obtain ⟨q,ds,as,r⟩ := z
   refine ⟨q,fun q' ds' as' r' => ?_⟩
   obtain ⟨a,us,rfl,hl1,ra⟩ := Cm r
   obtain ⟨b,ws,e,hl2,rb⟩ := Cm r'
   cases e
   obtain ⟨o1,g1,c1,n1,d1⟩ := hl1
   obtain ⟨o2,g2,c2,n2,d2⟩ := hl2
   rw [g1] at g2; cases g2
   rw [d1] at d2
   have : us = ws := by injection d2 with d2 _; simpa using d2
   subst this
   cases ra with
   | cons a1 _ =>
    cases rb with
    | cons b1 _ => cases a1; cases b1; rfl
  ·exact ⟨0,fun q ds as r => absurd ⟨q,ds,as,r⟩ z⟩
 obtain ⟨f,hf⟩ := Classical.axiomOfChoice first
 have ex : ∀ z : Value × Value,∃ b : Bool,(z.1 ∈ its -> z.2 ∈ its -> ∀ s' : Shared,CM s.heap s'.heap -> OrdAt .Gt X.A.in1 s' z.1 z.2 b) /\ (b = true -> z.1 ∈ its -> z.2 ∈ its -> f z.2 <= f z.1) /\ (b = false -> z.1 ∈ its -> z.2 ∈ its -> f z.1 <= f z.2) := fun z => by
  by_cases m1 : z.1 ∈ its
  ·by_cases m2 : z.2 ∈ its
   ·obtain ⟨q1,a1,k1,r1⟩ := get _ m1
    obtain ⟨q2,a2,k2,r2⟩ := get _ m2
    have e1 := hf z.1 q1.1 q1.2 a1 r1
    have e2 := hf z.2 q2.1 q2.2 a2 r2
    have pc : Paired Cmp (.int q1.1 :: q1.2) (.int q2.1 :: q2.2) := .cons (.int _ _) (cm q1 k1 q2 k2)
    refine ⟨Ef (decide ((PyData.int q1.1 :: q1.2).length > (PyData.int q2.1 :: q2.2).length)) (.int q1.1 :: q1.2) (.int q2.1 :: q2.2),fun _ _ s' held => ?_,fun b _ _ => ?_,fun b _ _ => ?_⟩
    ·obtain ⟨c1,us,ez1,h1,ra⟩ := Cm (Reads.keeps held r1)
     obtain ⟨c2,ws,ez2,h2,rb⟩ := Cm (Reads.keeps held r2)
     rw [ez1,ez2]
     refine OrdAt.gtT h1 h2 (by simp only [Around.in1_units]; omega) ?_
     have l1 := C5 ra
     have l2 := C5 rb
     have := Kk (A := X.A.in1.in1) (s := s') (last := decide ((PyData.int q1.1 :: q1.2).length > (PyData.int q2.1 :: q2.2).length)) (by simp only [Around.in1_units]; omega) pc ra rb
     rw [<- l1,<- l2] at this ⊢
     simpa using this
    ·unfold Ef at b
     by_cases z : q1.1 = q2.1
     ·omega
     ·rw [if_neg (by unfold PyData.eqv; simpa using z)] at b
      have b' : decide (q1.1 > q2.1) = true := b
      have := of_decide_eq_true b'
      omega
    ·unfold Ef at b
     by_cases z : q1.1 = q2.1
     ·omega
     ·rw [if_neg (by unfold PyData.eqv; simpa using z)] at b
      have b' : decide (q1.1 > q2.1) = false := b
      have := of_decide_eq_false b'
      omega
   ·exact ⟨true,fun _ m => absurd m m2,fun _ _ m => absurd m m2,fun z => nomatch z⟩
  ·exact ⟨true,fun m => absurd m m1,fun _ m => absurd m m1,fun z => nomatch z⟩
 obtain ⟨bt,hbt⟩ := Classical.axiomOfChoice ex
 have nei : its ≠ [] := fun z => ne (List.eq_nil_of_length_eq_zero (by rw [z] at lv; have l0 : vs.length = 0 := lv; omega))
 refine OW (bt := fun x y => bt (x,y)) (I.ok.hd hc) pl.isList nei (fun x y s' mx my held => (hbt (x,y)).1 mx my s' held) fun v h tk e kept => ?_
 obtain ⟨b0,rest,eits⟩ : ∃ b r,its = b :: r := by
  cases its with
  | nil => exact absurd rfl nei
  | cons b r => exact ⟨b,r,rfl⟩
 have e' : rest.foldl (better fun x y => bt (x,y)) (some b0) = some v := by rw [eits,List.foldl_cons] at e; exact e
 -- outside of the list the answers don't matter
 have best := FZ (S := fun x => x ∈ its) (bt := fun x y => bt (x,y)) (f := f) (fun x y hx hy b => (hbt (x,y)).2.1 b hx hy) (fun x y hx hy b => (hbt (x,y)).2.2 b hx hy) rest b0 v (by rw [eits]; exact List.mem_cons_self) (fun x hx => by rw [eits]; exact List.mem_cons_of_mem _ hx) e'
 obtain ⟨mv,f0,fr⟩ := best
 have mv' : v ∈ its := by
  rw [eits]
  rcases mv with z | z
  ·rw [z]; exact List.mem_cons_self
  ·exact List.mem_cons_of_mem _ z
 have all : ∀ x ∈ its,f x <= f v := fun x hx => by
  rw [eits] at hx
  rcases List.mem_cons.mp hx with rfl | hx
  ·exact f0
  ·exact fr x hx
 obtain ⟨i,hi⟩ := List.getElem?_of_mem mv'
 obtain ⟨qq,vv,as,hfq,hvv,rx,rr⟩ := rd i v hi
 refine ⟨vv,H,I.kept kept,rx,q i qq vv hfq hvv fun q' hq' => ?_⟩
 obtain ⟨j,hj⟩ := List.getElem?_of_mem hq'
 have hj' := (List.getElem?_eq_some_iff.mp hj).1
 obtain ⟨q2,v2,as2,hf2,_,_,r2⟩ := rd j its[j] (List.getElem?_eq_getElem (by omega))
 rw [hj] at hf2; cases hf2
 have := all its[j] (List.getElem_mem _)
 rw [<- hf v qq.1 qq.2 as rr,<- hf its[j] q'.1 q'.2 as2 r2] at this
 omega
def F1 (last : Bool) : List Int -> List Int -> Bool
 | a :: as,b :: bs => if a = b then F1 last as bs else decide (a < b)
 | _,_ => last
theorem Km {A : Around} {s : Shared} {last : Bool} : ∀ {as bs : List Int} {us ws : List Value} {x y : List Addr},ReadsAll s.heap us (as.map .int) x -> ReadsAll s.heap ws (bs.map .int) y -> Told .Lt A s last (us.zip ws) (F1 last as bs)
 | [],_,_,_,_,_,r,_ => by cases r; exact .none
 | _ :: _,[],_,_,_,_,r,q => by cases q; rw [List.zip_nil_right]; exact .none
 | a :: as,b :: bs,us,ws,x,y,r,q => by
  cases r with
  | cons r1 r2 =>
   cases q with
   | cons q1 q2 =>
    cases r1 with
    | int i t =>
     cases q1 with
     | int j u =>
      rw [List.zip_cons_cons]
      unfold F1
      split
      ·rename_i e
       subst e
       refine .same ?_ (Km r2 q2)
       have := EqAt.int_int (A := A) (s := s) a t a u
       simpa using this
      ·rename_i e
       refine .unlike ?_ (OrdAt.ltI a b t u)
       have := EqAt.int_int (A := A) (s := s) a t b u
       rw [show (a == b) = false from by simpa using e] at this
       exact this
def HN (d e : PyData) : Bool := match d,e with
 | .int a,.int b => decide (a < b)
 | .tuple xs,.tuple ys => F1 (decide (xs.length < ys.length)) (xs.filterMap fun | .int i => some i | _ => none) (ys.filterMap fun | .int i => some i | _ => none)
 | _,_ => false
theorem HP : ∀ (as : List Int),((as.map PyData.int).filterMap fun | .int i => some i | _ => none) = as
 | [] => rfl
 | a :: as => by rw [List.map_cons,List.filterMap_cons]; simp only; rw [HP as]
theorem O0 {A : Around} {d e : PyData} {x : List Addr} (h : Cmp d e) (r : Reads s.heap u d x) (q : Reads s.heap v e y) (hu : A.units < cLine) : OrdAt .Lt A s u v (HN d e) := by
 cases h with
 | int a b =>
  cases r with
  | int i t =>
   cases q with
   | int j t' => exact OrdAt.ltI a b t t'
 | row as bs =>
  obtain ⟨a,us,rfl,hl,ra⟩ := Cm r
  obtain ⟨b,ws,rfl,hb,rb⟩ := Cm q
  have l1 : us.length = as.length := by have := C5 ra; rw [List.length_map] at this; exact this
  have l2 : ws.length = bs.length := by have := C5 rb; rw [List.length_map] at this; exact this
  refine OrdAt.ltT hl hb hu ?_
  have := Km (A := A.in1) (last := decide (us.length < ws.length)) ra rb
  unfold HN
  dsimp only
  rw [HP,HP,List.length_map,List.length_map,<- l1,<- l2]
  simpa using this
def Eg (last : Bool) : List PyData -> List PyData -> Bool
 | d :: ds,e :: es => if PyData.eqv d e then Eg last ds es else HN d e
 | _,_ => last
theorem Kn {A : Around} {s : Shared} {last : Bool} (hu : A.units + 5 < cLine) : ∀ {ds es : List PyData} {us ws : List Value} {x y : List Addr},Paired Cmp ds es -> ReadsAll s.heap us ds x -> ReadsAll s.heap ws es y -> Told .Lt A s last (us.zip ws) (Eg last ds es)
 | _,_,_,_,_,_,.nil,r,q => by cases r; exact .none
 | d :: ds,e :: es,us,ws,x,y,.cons c t,r,q => by
  cases r with
  | cons r1 r2 =>
   cases q with
   | cons q1 q2 =>
    rw [List.zip_cons_cons]
    obtain ⟨c1,c2,c3⟩ := c.left
    obtain ⟨e1,e2,e3⟩ := c.symm.left
    have eq := eqAt_reads d e A s _ _ _ _ r1 q1 c1 e1 (by omega)
    unfold Eg
    cases z : PyData.eqv d e with
    | true => rw [z] at eq; exact .same eq (Kn hu t r2 q2)
    | false => rw [z] at eq; exact .unlike eq (O0 c r1 q1 (by omega))
theorem O1 (hc : X.calm = true) (hr : Be k X.A) : Bx X (.builtin "min") (fun xs H Q => ∃ (p l : Addr) (fs : List (Int × List PyData)) (vs : List V),xs = [.ref l] /\ H l = some (.lst vs) /\ Ad p H (fs.map fun q => .tuple (.int q.1 :: q.2)) vs /\ fs ≠ [] /\ (∀ q ∈ fs,∀ q' ∈ fs,Paired Cmp q.2 q'.2) /\
  ∀ (i : Nat) q v,fs[i]? = some q -> vs[i]? = some v -> (∀ q' ∈ fs,q.1 <= q'.1) -> Q v H) := by
 intro pins s σ H xs us Q I r h
 obtain ⟨p,l,fs,vs,rfl,hl,rs,ne,cm,q⟩ := h
 obtain ⟨u,rfl,ru⟩ := r.one
 cases ru
 obtain ⟨its,rv,pl,hz⟩ := I.list (An.of hl)
 have un := hr.un
 have lv := rv.length
 have lf := rs.len
 rw [List.length_map] at lf
 -- what each value reads
 have rd : ∀ (i : Nat) (x : Value),its[i]? = some x -> ∃ q v as,fs[i]? = some q /\ vs[i]? = some v /\ AA v x /\ Reads s.heap x (.tuple (.int q.1 :: q.2)) as := fun i x hx => by
  have hi := (List.getElem?_eq_some_iff.mp hx).1
  have hf : fs[i]? = some fs[i] := List.getElem?_eq_getElem (by omega)
  obtain ⟨v,hv,rep⟩ := rs.get (i := i) (d := .tuple (.int (fs[i]).1 :: (fs[i]).2)) (by rw [List.getElem?_map,hf]; rfl)
  obtain ⟨x',hx',rx⟩ := rv.get hv
  rw [hx] at hx'; cases hx'
  have mem := List.getElem_mem (l := fs) (n := i) (by omega)
  have nd : (PyData.tuple (.int (fs[i]).1 :: (fs[i]).2)).hasDict = false := by
   have := cm _ mem _ mem
   generalize (fs[i]).2 = ds at this
   have all : ∀ {ds es : List PyData},Paired Cmp ds es -> PyData.hasDictAll ds = false := by
    intro ds es t
    induction t with
    | nil => rfl
    | cons c _ ih => unfold PyData.hasDictAll; rw [c.left.2.1,ih]; rfl
   unfold PyData.hasDict PyData.hasDictAll
   rw [all this]; rfl
  obtain ⟨as,rr⟩ := Aa.reads I _ v x nd rep rx
  exact ⟨_,v,as,hf,hv,rx,rr⟩
 have get : ∀ x ∈ its,∃ q as,q ∈ fs /\ Reads s.heap x (.tuple (.int q.1 :: q.2)) as := fun x hx => by
  obtain ⟨i,hi⟩ := List.getElem?_of_mem hx
  obtain ⟨q,v,as,hf,_,_,r⟩ := rd i x hi
  exact ⟨q,as,List.mem_of_getElem? hf,r⟩
 -- the first number of a value
 have first : ∀ x,∃ n : Int,∀ (q : Int) (ds : List PyData) (as : List Addr),Reads s.heap x (.tuple (.int q :: ds)) as -> - q = n := fun x => by
  by_cases z : ∃ (q : Int) (ds : List PyData) (as : List Addr),Reads s.heap x (.tuple (.int q :: ds)) as
  ·obtain ⟨q,ds,as,r⟩ := z
   refine ⟨- q,fun q' ds' as' r' => ?_⟩
   obtain ⟨a,us,rfl,hl1,ra⟩ := Cm r
   obtain ⟨b,ws,e,hl2,rb⟩ := Cm r'
   cases e
   obtain ⟨o1,g1,c1,n1,d1⟩ := hl1
   obtain ⟨o2,g2,c2,n2,d2⟩ := hl2
   rw [g1] at g2; cases g2
   rw [d1] at d2
   have : us = ws := by injection d2 with d2 _; simpa using d2
   subst this
   cases ra with
   | cons a1 _ =>
    cases rb with
    | cons b1 _ => cases a1; cases b1; rfl
  ·exact ⟨0,fun q ds as r => absurd ⟨q,ds,as,r⟩ z⟩
 obtain ⟨f,hf⟩ := Classical.axiomOfChoice first
 have ex : ∀ z : Value × Value,∃ b : Bool,(z.1 ∈ its -> z.2 ∈ its -> ∀ s' : Shared,CM s.heap s'.heap -> OrdAt .Lt X.A.in1 s' z.1 z.2 b) /\ (b = true -> z.1 ∈ its -> z.2 ∈ its -> f z.2 <= f z.1) /\ (b = false -> z.1 ∈ its -> z.2 ∈ its -> f z.1 <= f z.2) := fun z => by
  by_cases m1 : z.1 ∈ its
  ·by_cases m2 : z.2 ∈ its
   ·obtain ⟨q1,a1,k1,r1⟩ := get _ m1
    obtain ⟨q2,a2,k2,r2⟩ := get _ m2
    have e1 := hf z.1 q1.1 q1.2 a1 r1
    have e2 := hf z.2 q2.1 q2.2 a2 r2
    have pc : Paired Cmp (.int q1.1 :: q1.2) (.int q2.1 :: q2.2) := .cons (.int _ _) (cm q1 k1 q2 k2)
    refine ⟨Eg (decide ((PyData.int q1.1 :: q1.2).length < (PyData.int q2.1 :: q2.2).length)) (.int q1.1 :: q1.2) (.int q2.1 :: q2.2),fun _ _ s' held => ?_,fun b _ _ => ?_,fun b _ _ => ?_⟩
    ·obtain ⟨c1,us,ez1,h1,ra⟩ := Cm (Reads.keeps held r1)
     obtain ⟨c2,ws,ez2,h2,rb⟩ := Cm (Reads.keeps held r2)
     rw [ez1,ez2]
     refine OrdAt.ltT h1 h2 (by simp only [Around.in1_units]; omega) ?_
     have l1 := C5 ra
     have l2 := C5 rb
     have := Kn (A := X.A.in1.in1) (s := s') (last := decide ((PyData.int q1.1 :: q1.2).length < (PyData.int q2.1 :: q2.2).length)) (by simp only [Around.in1_units]; omega) pc ra rb
     rw [<- l1,<- l2] at this ⊢
     simpa using this
    ·unfold Eg at b
     by_cases z : q1.1 = q2.1
     ·omega
     ·rw [if_neg (by unfold PyData.eqv; simpa using z)] at b
      have b' : decide (q1.1 < q2.1) = true := b
      have := of_decide_eq_true b'
      omega
    ·unfold Eg at b
     by_cases z : q1.1 = q2.1
     ·omega
     ·rw [if_neg (by unfold PyData.eqv; simpa using z)] at b
      have b' : decide (q1.1 < q2.1) = false := b
      have := of_decide_eq_false b'
      omega
   ·exact ⟨true,fun _ m => absurd m m2,fun _ _ m => absurd m m2,fun z => nomatch z⟩
  ·exact ⟨true,fun m => absurd m m1,fun _ m => absurd m m1,fun z => nomatch z⟩
 obtain ⟨bt,hbt⟩ := Classical.axiomOfChoice ex
 have nei : its ≠ [] := fun z => ne (List.eq_nil_of_length_eq_zero (by rw [z] at lv; have l0 : vs.length = 0 := lv; omega))
 refine OY (bt := fun x y => bt (x,y)) (I.ok.hd hc) pl.isList nei (fun x y s' mx my held => (hbt (x,y)).1 mx my s' held) fun v h tk e kept => ?_
 obtain ⟨b0,rest,eits⟩ : ∃ b r,its = b :: r := by
  cases its with
  | nil => exact absurd rfl nei
  | cons b r => exact ⟨b,r,rfl⟩
 have e' : rest.foldl (better fun x y => bt (x,y)) (some b0) = some v := by rw [eits,List.foldl_cons] at e; exact e
 -- outside of the list the answers don't matter
 have best := FZ (S := fun x => x ∈ its) (bt := fun x y => bt (x,y)) (f := f) (fun x y hx hy b => (hbt (x,y)).2.1 b hx hy) (fun x y hx hy b => (hbt (x,y)).2.2 b hx hy) rest b0 v (by rw [eits]; exact List.mem_cons_self) (fun x hx => by rw [eits]; exact List.mem_cons_of_mem _ hx) e'
 obtain ⟨mv,f0,fr⟩ := best
 have mv' : v ∈ its := by
  rw [eits]
  rcases mv with z | z
  ·rw [z]; exact List.mem_cons_self
  ·exact List.mem_cons_of_mem _ z
 have all : ∀ x ∈ its,f x <= f v := fun x hx => by
  rw [eits] at hx
  rcases List.mem_cons.mp hx with rfl | hx
  ·exact f0
  ·exact fr x hx
 obtain ⟨i,hi⟩ := List.getElem?_of_mem mv'
 obtain ⟨qq,vv,as,hfq,hvv,rx,rr⟩ := rd i v hi
 refine ⟨vv,H,I.kept kept,rx,q i qq vv hfq hvv fun q' hq' => ?_⟩
 obtain ⟨j,hj⟩ := List.getElem?_of_mem hq'
 have hj' := (List.getElem?_eq_some_iff.mp hj).1
 obtain ⟨q2,v2,as2,hf2,_,_,r2⟩ := rd j its[j] (List.getElem?_eq_getElem (by omega))
 rw [hj] at hf2; cases hf2
 have := all its[j] (List.getElem_mem _)
 rw [<- hf v qq.1 qq.2 as rr,<- hf its[j] q'.1 q'.2 as2 r2] at this
 omega
end L2
end
section
namespace MF
open PySem PySem.Spec PyProof.Rows L2
variable {p : Addr} {H : Hp} {T : TM} {kvs ks : KL} {k : AO} {v : V} {q : AO × V}
def Dt (T : TM) : Nat -> List Int -> Int
 | _,[] => 0
 | h,p :: r => AW T h p (r.headD 0) + Dt T (h + 1) r
def Asked (T : TM) (ps : List Int) : Prop := ∀ x ∈ ps,x ∈ 0 :: T.co
structure OneTail (T : TM) (h : Nat) (x f : Int) (ps : List Int) : Prop where
 len : ps.length = T.ds.length - h
 val : f = Dt T h ps
 hd : ps.headD 0 = x
 as : Asked T ps
 top : ∀ qs : List Int,qs.length = T.ds.length - h -> Asked T qs -> qs.headD 0 = x -> Dt T h qs <= f
def DO (T : TM) (h : Nat) (x : Int) : Prop := if h = T.ds.length then x = 0 else x ∈ 0 :: T.co
structure A4 (T : TM) (f : Int) (ps : List Int) : Prop where
 val : f = A5 T ps
 len : ps.length = T.ds.length
 as : Asked T ps
 top : ∀ qs : List Int,qs.length = T.ds.length -> Asked T qs -> A5 T qs <= f
abbrev Cc (f : Int) (ps : List Int) : PyData := .tuple [.int f,AQ ps]
structure TailsAt (p : Addr) (H : Hp) (T : TM) (h : Nat) (kvs : KL) : Prop where
 one : ∀ q ∈ kvs,∃ x f ps,q.1 = .inl x /\ Aa p H (Cc f ps) q.2 /\ OneTail T h x f ps
 all : ∀ x,DO T h x -> ∃ q ∈ kvs,q.1 = .inl x
theorem TailsAt.same {H' : Hp} {h : Nat} (t : TailsAt p H T h kvs) (s : Ab H H') : TailsAt p H' T h kvs :=
 ⟨fun q hq => by
  obtain ⟨x,f,ps,e,r,o⟩ := t.one q hq
  exact ⟨x,f,ps,e,Aa.ev (Ev.same s) _ _ r,o⟩,t.all⟩
theorem O2 (h : q ∈ BT ks k v) : q ∈ ks \/ q = (k,v) := by
 unfold BT at h
 split at h
 ·obtain ⟨q0,h0,e⟩ := List.mem_map.mp h
  split at e
  ·rename_i z
   exact .inr (by rw [<- e,z])
  ·exact .inl (by rw [<- e]; exact h0)
 ·rcases List.mem_append.mp h with h | h
  ·exact .inl h
  ·exact .inr (List.mem_singleton.mp h)
theorem O3 : ∃ q ∈ BT ks k v,q.1 = k := by
 unfold BT
 split
 ·rename_i z
  obtain ⟨q,hq,e⟩ := List.any_eq_true.mp z
  have e' : q.1 = k := of_decide_eq_true e
  exact ⟨_,List.mem_map.mpr ⟨q,hq,rfl⟩,by rw [if_pos e']; exact e'⟩
 ·exact ⟨(k,v),List.mem_append_right _ (List.mem_singleton.mpr rfl),rfl⟩
theorem O4 (h : q ∈ ks) : ∃ q' ∈ BT ks k v,q'.1 = q.1 := by
 unfold BT
 split
 ·refine ⟨_,List.mem_map.mpr ⟨q,h,rfl⟩,?_⟩
  split <;> rfl
 ·exact ⟨q,List.mem_append_left _ h,rfl⟩
theorem Ko {T : TM} {h : Nat} {ps : List Int} (hl : ps.length = T.ds.length - h) (ha : Asked T ps) (hh : h <= T.ds.length) : DO T h (ps.headD 0) := by
 unfold DO
 split
 ·cases ps with
  | nil => rfl
  | cons a r => rw [List.length_cons] at hl; omega
 ·cases ps with
  | nil => rw [List.length_nil] at hl; omega
  | cons a r => exact ha a List.mem_cons_self
theorem O5 (r : Aa p H (Cc 0 []) v) : TailsAt p H T T.ds.length [(.inl 0,v)] := by
 refine ⟨fun q hq => ?_,fun x hx => ?_⟩
 ·rw [List.mem_singleton.mp hq]
  refine ⟨0,0,[],rfl,r,by simp,rfl,rfl,fun _ h => (nomatch h),fun qs hl _ _ => ?_⟩
  cases qs with
  | nil => exact Int.le_refl _
  | cons a r => simp at hl
 ·unfold DO at hx
  rw [if_pos rfl] at hx
  subst hx
  exact ⟨_,List.mem_singleton.mpr rfl,rfl⟩
theorem OneTail.step {n : Nat} (t : TailsAt p H T (n + 1) kvs) (hn : n < T.ds.length) {x b f : Int} {ps : List Int} (hx : x ∈ 0 :: T.co) (o : OneTail T (n + 1) b f ps)
  (top : ∀ b' f' ps',OneTail T (n + 1) b' f' ps' -> (∃ q ∈ kvs,q.1 = .inl b' /\ Aa p H (Cc f' ps') q.2) -> AW T n x b' + f' <= AW T n x b + f) : OneTail T n x (AW T n x b + f) (x :: ps) := by
 refine ⟨by rw [List.length_cons,o.len]; omega,?_,rfl,fun y hy => ?_,fun qs hl ha hh => ?_⟩
 ·show _ = AW T n x (ps.headD 0) + Dt T (n + 1) ps
  rw [o.hd,o.val]
 ·rcases List.mem_cons.mp hy with rfl | hy
  ·exact hx
  ·exact o.as y hy
 ·cases qs with
  | nil => rw [List.length_nil] at hl; omega
  | cons a r =>
   have ea : a = x := hh
   subst ea
   have lr : r.length = T.ds.length - (n + 1) := by rw [List.length_cons] at hl; omega
   have ar : Asked T r := fun y hy => ha y (List.mem_cons_of_mem _ hy)
   obtain ⟨q,hq,eq⟩ := t.all _ (Ko lr ar (by omega))
   obtain ⟨b',f',ps',e1,r1,o1⟩ := t.one q hq
   rw [eq] at e1
   have e1' : r.headD 0 = b' := by injection e1
   subst e1'
   have h1 := o1.top r lr ar rfl
   have h2 := top _ f' ps' o1 ⟨q,hq,eq,r1⟩
   show AW T n a (r.headD 0) + Dt T (n + 1) r <= _
   omega
theorem Kp {g : Nat -> Int} : ∀ n,((List.range (n + 1)).map g).sum = g 0 + ((List.range n).map fun i => g (i + 1)).sum := fun n => by
 rw [List.range_succ_eq_map,List.map_cons,List.sum_cons,List.map_map]; rfl
theorem Kq (r : List Int) : r.headD 0 = r.getD 0 0 := by cases r <;> rfl
theorem Kr : ∀ (ps : List Int) (h : Nat),Dt T h ps = ((List.range ps.length).map fun i => AW T (h + i) (ps.getD i 0) (ps.getD (i + 1) 0)).sum
 | [],h => rfl
 | p :: r,h => by
  show AW T h p (r.headD 0) + Dt T (h + 1) r = _
  rw [Kr r (h + 1),List.length_cons,Kp,Kq]
  have e : (fun i => AW T (h + (i + 1)) ((p :: r).getD (i + 1) 0) ((p :: r).getD (i + 1 + 1) 0)) = (fun i => AW T (h + 1 + i) (r.getD i 0) (r.getD (i + 1) 0)) := by
   funext i
   rw [show h + (i + 1) = h + 1 + i by omega]; rfl
  rw [e]; rfl
theorem Ks (ps : List Int) : Dt T 0 ps - ps.headD 0 * T.st = A5 T ps := by
 rw [Kr,Kq]
 unfold A5 BD
 congr 3
 funext i
 rw [Nat.zero_add]
theorem O6 (t : TailsAt p H T 0 kvs) {x f : Int} {ps : List Int} (o : OneTail T 0 x f ps) (top : ∀ x' f' ps',OneTail T 0 x' f' ps' -> (∃ q ∈ kvs,q.1 = .inl x' /\ Aa p H (Cc f' ps') q.2) -> f' - x' * T.st <= f - x * T.st) : A4 T (f - x * T.st) ps := by
 refine ⟨?_,by have := o.len; omega,o.as,fun qs hl ha => ?_⟩
 ·rw [<- Ks,<- o.val,o.hd]
 ·obtain ⟨q,hq,eq⟩ := t.all _ (Ko (h := 0) (by omega) ha (by omega))
  obtain ⟨x',f',ps',e1,r1,o1⟩ := t.one q hq
  rw [eq] at e1
  have e1' : qs.headD 0 = x' := by injection e1
  subst e1'
  have h1 := o1.top qs (by omega) ha rfl
  have h2 := top _ f' ps' o1 ⟨q,hq,eq,r1⟩
  rw [<- Ks]
  omega
end MF
namespace MF
open PySem PySem.Spec PyProof.Rows L2
def F2 (p : Addr) (H : Hp) (T : TM) (n : Nat) (g : Int -> Int -> Int) (hd : List Int -> List Int) (q0 : AO × V) (fq : Int × List PyData) : Prop := ∃ b f ps,q0.1 = .inl b /\ Aa p H (Cc f ps) q0.2 /\ OneTail T n b f ps /\ fq = (g b f,[AQ (hd ps)])
end MF
end
section
namespace MF
open PySem PySem.Spec PyProof.Rows L2
variable {T U : TM} {α : Type} {xs : List α} {i : Nat}
theorem O7 {n f l : Nat} (h : f <= l) (hl : l < n) : (f,l) ∈ B3 n n := by
 unfold B3
 refine List.mem_flatten.mpr ⟨CA f (n - f),List.mem_map.mpr ⟨f,List.mem_range.mpr (by omega),rfl⟩,?_⟩
 unfold CA
 exact List.mem_map.mpr ⟨l - f,List.mem_range.mpr (by omega),by show (f,f + (l - f)) = (f,l); rw [show f + (l - f) = l by omega]⟩
theorem no_str : Bc T = none ↔ ∀ f l,f <= l -> l < T.ds.length -> BS T f l = false := by
 unfold Bc
 rw [List.head?_eq_none_iff]
 unfold Ec
 rw [List.filter_eq_nil_iff]
 constructor
 ·intro h f l hf hl
  have := h (f,l) (O7 hf hl)
  simpa using this
 ·intro h q hq
  obtain ⟨h1,h2⟩ := J5 (Nat.le_refl _) q hq
  rw [h q.1 q.2 h1 h2]
  exact Bool.false_ne_true
theorem HQ : ∀ {xs ys : List Int},xs.length = ys.length -> (∀ i,xs.getD i 0 <= ys.getD i 0) -> xs.sum <= ys.sum
 | [],[],_,_ => Int.le_refl _
 | [],_ :: _,h,_ => by simp at h
 | _ :: _,[],h,_ => by simp at h
 | x :: xs,y :: ys,h,g => by
  have h0 : x <= y := g 0
  have := HQ (xs := xs) (ys := ys) (by simpa using h) fun i => g (i + 1)
  rw [List.sum_cons,List.sum_cons]
  omega
theorem Kt {f l : Nat} {d : α} : (part xs f l).getD i d = if i < l + 1 - f then xs.getD (f + i) d else d := by
 unfold part
 rw [List.getD_eq_getElem?_getD,List.getElem?_take]
 split
 ·rw [List.getElem?_drop,List.getD_eq_getElem?_getD]
 ·rfl
theorem Ku {xs ys : List Int} {f l : Nat} (h : xs.length = ys.length) (g : ∀ i,xs.getD i 0 <= ys.getD i 0) : (part xs f l).sum <= (part ys f l).sum := by
 refine HQ (by unfold part; rw [List.length_take,List.length_take,List.length_drop,List.length_drop,h]) fun i => ?_
 rw [Kt,Kt]
 split
 ·exact g _
 ·exact Int.le_refl _
theorem O8 {f l : Nat} (hd : T.ds.length = U.ds.length) (d : ∀ i,U.ds.getD i 0 <= T.ds.getD i 0) (hc : T.cs.length = U.cs.length) (c : ∀ i,(T.cs.getD i []).sum <= (U.cs.getD i []).sum) (s : T.st <= U.st) (h : T.hi <= U.hi) (lo : U.lo <= T.lo) (no : BS T f l = false) : BS U f l = false := by
 unfold BS at no ⊢
 have no' := of_decide_eq_false no
 refine decide_eq_false fun z => no' ?_
 have h1 : ET U f l <= ET T f l := Ku hd.symm d
 have h2 : most T f l <= most U f l := by
  unfold most
  rw [<- Eb,<- Eb]
  refine Ku (by rw [List.length_map,List.length_map,hc]) fun i => ?_
  have e : ∀ V : TM,(V.cs.map List.sum).getD i 0 = (V.cs.getD i []).sum := fun V => by
   rw [List.getD_eq_getElem?_getD,List.getElem?_map,List.getD_eq_getElem?_getD]
   cases V.cs[i]? <;> rfl
  rw [e,e]
  exact c i
 split at z <;> split <;> omega
theorem HR (hd : T.ds.length = U.ds.length) (d : ∀ i,U.ds.getD i 0 <= T.ds.getD i 0) (hc : T.cs.length = U.cs.length) (c : ∀ i,(T.cs.getD i []).sum <= (U.cs.getD i []).sum) (s : T.st <= U.st) (h : T.hi <= U.hi) (lo : U.lo <= T.lo) (no : Bc T = none) : Bc U = none :=
 no_str.mpr fun f l hf hl => O8 hd d hc c s h lo (no_str.mp no f l hf (by omega))
theorem EW {k : Nat} {x d : α} (hk : k < xs.length) : (xs.set k x).getD i d = if i = k then x else xs.getD i d := by
 rw [List.getD_eq_getElem?_getD,List.getElem?_set,List.getD_eq_getElem?_getD]
 by_cases z : k = i
 ·rw [if_pos z,if_pos (by omega),if_pos z.symm]; rfl
 ·rw [if_neg z,if_neg (fun e => z e.symm)]
theorem O9 {P : PL} {S : SY} (ok : P.ok) (so : S.ok P.bs.length) {f : Nat} : ∀ k,f + k <= S.ex.length -> Ay P S (caps P S) (f + k) <= Bu (terms P S) f k := fun k => by
 induction k with
 | zero =>
  intro _
  show Ay P S (caps P S) (f + 0) <= (if f = 0 then P.st else P.hi)
  cases f with
  | zero => exact Int.le_refl _
  | succ f =>
   rw [if_neg (by omega)]
   show Ay P S (caps P S) (f + 1) <= P.hi
   rw [Ca]
   unfold A1
   split <;> omega
 | succ k ih =>
  intro hk
  have h1 := ih (by omega)
  have e : Bu (terms P S) f (k + 1) = Bu (terms P S) f k + made (caps P S) (f + k) - BR P S (f + k) := rfl
  rw [e,show f + (k + 1) = f + k + 1 by omega,Ca]
  unfold AH A1
  split <;> omega
theorem Pa {P : PL} {S : SY} : ∀ l,∃ f,f <= l /\ Ay P S (caps P S) l = Bu (terms P S) f (l - f) := fun l => by
 induction l with
 | zero => exact ⟨0,Nat.le_refl _,rfl⟩
 | succ l ih =>
  obtain ⟨f,hf,e⟩ := ih
  by_cases z : 0 > AH P S (caps P S) l - P.hi
  ·refine ⟨f,by omega,?_⟩
   have e2 : Bu (terms P S) f (l - f + 1) = Bu (terms P S) f (l - f) + made (caps P S) (f + (l - f)) - BR P S (f + (l - f)) := rfl
   rw [Ca,show l + 1 - f = l - f + 1 by omega,e2,<- e,show f + (l - f) = l by omega]
   unfold A1
   rw [if_pos z]
   unfold AH
   omega
  ·refine ⟨l + 1,Nat.le_refl _,?_⟩
   rw [Nat.sub_self]
   show _ = (if l + 1 = 0 then P.st else P.hi)
   rw [if_neg (by omega),Ca]
   unfold A1
   rw [if_neg z]
   omega
theorem Pb {P : PL} {S : SY} (ok : P.ok) (so : S.ok P.bs.length) : (∀ i,i < S.ex.length -> P.lo <= AH P S (caps P S) i) ↔ Bc (terms P S) = none := by
 have tk := JW (P := P) so
 have ld : (terms P S).ds.length = S.ex.length := draws_len
 rw [no_str]
 constructor
 ·intro h f l hf hl
  rw [ld] at hl
  rw [<- J7 tk hf (by rw [ld]; exact hl)]
  unfold FY
  refine decide_eq_false ?_
  have h1 := h l hl
  have h2 := O9 ok so (f := f) (l - f) (by omega)
  rw [show f + (l - f) = l by omega] at h2
  have e2 : Bu (terms P S) f (l - f + 1) = Bu (terms P S) f (l - f) + made (caps P S) (f + (l - f)) - BR P S (f + (l - f)) := rfl
  rw [show l + 1 - f = l - f + 1 by omega,e2,show f + (l - f) = l by omega]
  unfold AH at h1
  show ¬ _ < P.lo
  omega
 ·intro h l hl
  obtain ⟨f,hf,e⟩ := Pa (P := P) (S := S) l
  have h1 := h f l hf (by rw [ld]; exact hl)
  rw [<- J7 tk hf (by rw [ld]; exact hl)] at h1
  unfold FY at h1
  have h2 := of_decide_eq_false h1
  have e2 : Bu (terms P S) f (l - f + 1) = Bu (terms P S) f (l - f) + made (caps P S) (f + (l - f)) - BR P S (f + (l - f)) := rfl
  rw [show l + 1 - f = l - f + 1 by omega,e2,show f + (l - f) = l by omega,<- e] at h2
  unfold AH
  have : ¬ _ < P.lo := h2
  omega
end MF
end
section
namespace MF
open PySem PySem.Spec PyProof.Rows L2
variable {hour : Nat} {T : TM}
def C6 (x : Int) : List Int -> Int
 | [] => x
 | y :: ys => if C6 y ys < x then C6 y ys else x
theorem HS (x : Int) : ∀ ys,C6 x ys ∈ x :: ys
 | [] => List.mem_cons_self
 | y :: ys => by
  unfold C6
  split
  ·exact List.mem_cons_of_mem _ (HS y ys)
  ·exact List.mem_cons_self
theorem HU (x : Int) : ∀ ys,∀ a ∈ x :: ys,C6 x ys <= a
 | [],a,h => by rw [List.mem_singleton.mp h]; exact Int.le_refl _
 | y :: ys,a,h => by
  have l := HU y ys
  unfold C6
  rcases List.mem_cons.mp h with rfl | h
  ·split <;> omega
  ·have := l a h
   split <;> omega
def Co (ms : List Int) (hi : Int) (at' hour : Nat) : Int :=
 match ((ms.take hour).drop at').map (hi - ·) with
 | [] => hi - ms.getD hour 0
 | x :: xs => C6 x xs
theorem Pc {ms : List Int} {hi : Int} {a : Nat} {M : Int} (hm : M ∈ ((ms.take hour).drop a).map (hi - ·)) (hl : ∀ x ∈ ((ms.take hour).drop a).map (hi - ·),M <= x) : M = Co ms hi a hour := by
 unfold Co
 cases e : ((ms.take hour).drop a).map (hi - ·) with
 | nil => rw [e] at hm; cases hm
 | cons x xs =>
  rw [e] at hm hl
  exact Int.le_antisymm (hl _ (HS x xs)) (HU x xs _ hm)
theorem Pd {ms : List Int} {hi : Int} {a : Nat} (h : ((ms.take hour).drop a).map (hi - ·) = []) : Co ms hi a hour = hi - ms.getD hour 0 := by unfold Co; rw [h]
theorem Kv {ms : List Int} {hi : Int} {a : Nat} (hh : hour < ms.length) (h1 : ∀ k,a <= k -> k < hour -> ms.getD k 0 < hi) (h2 : ms.getD hour 0 < hi) : 0 < Co ms hi a hour := by
 unfold Co
 cases e : ((ms.take hour).drop a).map (hi - ·) with
 | nil => show 0 < hi - ms.getD hour 0; omega
 | cons x xs =>
  show 0 < C6 x xs
  have m := HS x xs
  rw [<- e] at m
  obtain ⟨y,hy,e2⟩ := List.mem_map.mp m
  obtain ⟨j,hj⟩ := List.getElem?_of_mem hy
  rw [List.getElem?_drop,List.getElem?_take] at hj
  split at hj
  ·rename_i lt
   have := h1 (a + j) (by omega) lt
   have g : ms.getD (a + j) 0 = y := by rw [List.getD_eq_getElem?_getD,hj]; rfl
   rw [g] at this
   have e3 : hi - y = C6 x xs := e2
   omega
  ·cases hj
structure Gr (T : TM) (f : List (List Int)) (ms : List Int) : Prop where
 lf : f.length = T.ds.length
 row : ∀ i,i < f.length -> (f.getD i []).length = T.co.length
 bd : ∀ i b,i < f.length -> b < T.co.length -> 0 <= (f.getD i []).getD b 0 /\ (f.getD i []).getD b 0 <= (T.cs.getD i []).getD b 0
 lm : ms.length = T.ds.length
 ms : ∀ k,k < ms.length -> ms.getD k 0 = (if k = 0 then T.st else ms.getD (k - 1) 0) + (f.getD k []).sum - T.ds.getD k 0
def CN (T : TM) (f : List (List Int)) (ms : List Int) (hour a b : Nat) : Prop := (f.getD a []).getD b 0 < (T.cs.getD a []).getD b 0 /\ 0 < Co ms T.hi a hour
theorem Pe (fl : A9 T) {f : List (List Int)} {ms : List Int} (g : Gr T f ms) {a : Nat} (ha : a < f.length) (h : ∀ b,b < T.co.length -> ¬ (f.getD a []).getD b 0 < (T.cs.getD a []).getD b 0) : (T.cs.getD a []).sum <= (f.getD a []).sum := by
 have lc : (T.cs.getD a []).length = T.co.length := (fl.c _ (getD_mem (by rw [fl.ok.lc,<- g.lf]; exact ha))).1
 refine HQ (by rw [lc,g.row a ha]) fun i => ?_
 by_cases hi : i < T.co.length
 ·exact Int.not_lt.mp (h i hi)
 ·rw [List.getD_eq_getElem?_getD,List.getElem?_eq_none (by omega),List.getD_eq_getElem?_getD,List.getElem?_eq_none (by rw [g.row a ha]; omega)]
  exact Int.le_refl _
theorem Pf (fl : A9 T) (lh : T.lo <= T.hi) (no : Bc T = none) {f : List (List Int)} {ms : List Int} (g : Gr T f ms) {hour : Nat} (hh : hour < ms.length) (low : ms.getD hour 0 < T.lo) : ∃ a b,a <= hour /\ b < T.co.length /\ CN T f ms hour a b := by
 apply Classical.byContradiction
 intro none
 have all : ∀ a,a <= hour -> (∀ k,a <= k -> k < hour -> ms.getD k 0 < T.hi) -> (T.cs.getD a []).sum <= (f.getD a []).sum := fun a ha hk => Pe fl g (by rw [g.lf,<- g.lm]; omega) fun b hb lt => none ⟨a,b,ha,hb,lt,Kv hh hk (by omega)⟩
 -- the last hour ahead whose main is full
 have from' : ∀ n,n <= hour -> (∀ k,n <= k -> k < hour -> ms.getD k 0 < T.hi) -> ∃ j,j <= hour /\ (∀ k,j <= k -> k < hour -> ms.getD k 0 < T.hi) /\ (if j = 0 then T.st else T.hi) <= (if j = 0 then T.st else ms.getD (j - 1) 0) := fun n => by
  induction n with
  | zero => intro _ hk; exact ⟨0,Nat.zero_le _,hk,by rw [if_pos rfl,if_pos rfl]; exact Int.le_refl _⟩
  | succ n ih =>
   intro hn hk
   by_cases c : ms.getD n 0 < T.hi
   ·refine ih (by omega) fun k h1 h2 => ?_
    by_cases e : k = n
    ·rw [e]; exact c
    ·exact hk k (by omega) h2
   ·exact ⟨n + 1,hn,hk,by rw [if_neg (by omega),if_neg (by omega),Nat.add_sub_cancel]; omega⟩
 obtain ⟨j,hj,hk,hp⟩ := from' hour (Nat.le_refl _) (fun k h1 h2 => by omega)
 have up : ∀ i,j + i <= hour -> Bu T j (i + 1) <= ms.getD (j + i) 0 := fun i => by
  induction i with
  | zero =>
   intro hi
   have e := g.ms j (by omega)
   have fu := all j hj hk
   show Bu T j 0 + (T.cs.getD (j + 0) []).sum - T.ds.getD (j + 0) 0 <= ms.getD (j + 0) 0
   rw [Nat.add_zero,e]
   have t0 : Bu T j 0 = (if j = 0 then T.st else T.hi) := rfl
   omega
  | succ i ih =>
   intro hi
   have e := g.ms (j + (i + 1)) (by omega)
   rw [if_neg (by omega),show j + (i + 1) - 1 = j + i by omega] at e
   have fu := all (j + (i + 1)) hi fun k h1 h2 => hk k (by omega) h2
   have := ih (by omega)
   show Bu T j (i + 1) + (T.cs.getD (j + (i + 1)) []).sum - T.ds.getD (j + (i + 1)) 0 <= _
   rw [e]; omega
 have top := up (hour - j) (by omega)
 rw [show j + (hour - j) = hour by omega] at top
 have l1 : hour < T.ds.length := by rw [<- g.lm]; exact hh
 have tm := (no_str.mp no) j hour hj l1
 have te := HH fl.ok (f := j) (hour + 1 - j) (by omega)
 rw [show hour - j + 1 = hour + 1 - j by omega] at top
 unfold BS at tm
 have := of_decide_eq_false tm
 unfold most ET at this
 unfold part at this
 rw [te] at top
 omega
def BK (ms : List Int) (a e : Nat) (m : Int) : List Int := (List.range ms.length).map fun k => if a <= k /\ k < e then ms.getD k 0 + m else ms.getD k 0
theorem DP {ms : List Int} {a e : Nat} {m : Int} : (BK ms a e m).length = ms.length := by unfold BK; rw [List.length_map,List.length_range]
theorem CO {ms : List Int} {a e : Nat} {m : Int} {k : Nat} (h : k < ms.length) : (BK ms a e m).getD k 0 = if a <= k /\ k < e then ms.getD k 0 + m else ms.getD k 0 := by
 unfold BK
 rw [List.getD_eq_getElem?_getD,List.getElem?_map,List.getElem?_range h]
 rfl
theorem Pg {ms : List Int} {a : Nat} {m : Int} : BK ms a a m = ms := by
 refine List.ext_getElem? fun k => ?_
 by_cases h : k < ms.length
 ·unfold BK
  rw [List.getElem?_map,List.getElem?_range h,List.getElem?_eq_getElem h]
  show some (if a <= k /\ k < a then _ else ms.getD k 0) = _
  rw [if_neg (by omega),List.getD_eq_getElem?_getD,List.getElem?_eq_getElem h]; rfl
 ·rw [List.getElem?_eq_none (by rw [DP]; omega),List.getElem?_eq_none (by omega)]
theorem Ph {ms : List Int} {a e : Nat} {m : Int} (h1 : a <= e) (h2 : e < ms.length) : (BK ms a e m).set e ((BK ms a e m).getD e 0 + m) = BK ms a (e + 1) m := by
 refine List.ext_getElem? fun k => ?_
 by_cases h : k < ms.length
 ·have g1 := CO (a := a) (e := e) (m := m) h2
  rw [if_neg (by omega)] at g1
  rw [List.getElem?_set,DP,g1]
  unfold BK
  rw [List.getElem?_map,List.getElem?_map,List.getElem?_range h]
  by_cases c : e = k
  ·subst c
   rw [if_pos rfl,if_pos h2]
   show some _ = some (if _ then _ else _)
   rw [if_pos ⟨h1,by omega⟩]
  ·rw [if_neg c]
   show some (if _ then _ else _) = some (if _ then _ else _)
   by_cases c1 : a <= k /\ k < e
   ·rw [if_pos c1,if_pos ⟨c1.1,by omega⟩]
   ·rw [if_neg c1,if_neg (fun z => c1 ⟨z.1,by omega⟩)]
 ·rw [List.getElem?_eq_none (by rw [List.length_set,DP]; omega),List.getElem?_eq_none (by rw [DP]; omega)]
theorem Pi {r : List Int} : ∀ {k : Nat} {x : Int},k < r.length -> (r.set k x).sum = r.sum + x - r.getD k 0 := by
 induction r with
 | nil => intro k x h; exact absurd h (Nat.not_lt_zero _)
 | cons y r ih =>
  intro k x h
  cases k with
  | zero => show x + r.sum = y + r.sum + x - y; omega
  | succ k =>
   have := ih (k := k) (x := x) (Nat.lt_of_succ_lt_succ h)
   show y + (r.set k x).sum = y + r.sum + x - r.getD k 0
   omega
def C7 (f : List (List Int)) (a b : Nat) (m : Int) : List (List Int) := f.set a ((f.getD a []).set b ((f.getD a []).getD b 0 + m))
theorem Gr.more {f : List (List Int)} {ms : List Int} (g : Gr T f ms) {a b : Nat} {m : Int} (ha : a < f.length) (hb : b < T.co.length) (m0 : 0 <= m) (m1 : m <= (T.cs.getD a []).getD b 0 - (f.getD a []).getD b 0) : Gr T (C7 f a b m) (BK ms a ms.length m) := by
 have lr := g.row a ha
 have at1 : ∀ i,(C7 f a b m).getD i [] = if i = a then (f.getD a []).set b ((f.getD a []).getD b 0 + m) else f.getD i [] := fun i => EW ha
 have lfm : (C7 f a b m).length = f.length := List.length_set
 refine ⟨by rw [lfm]; exact g.lf,fun i hi => ?_,fun i c hi hc => ?_,by rw [DP]; exact g.lm,fun k hk => ?_⟩
 ·rw [at1]; split
  ·rw [List.length_set]; exact lr
  ·exact g.row i (by rw [<- lfm]; exact hi)
 ·rw [at1]; split
  ·rename_i e; subst e
   rw [EW (by rw [lr]; exact hb)]
   have o := g.bd i c ha hc
   have ob := g.bd i b ha hb
   split
   ·rename_i e; subst e; omega
   ·exact o
  ·exact g.bd i c (by rw [<- lfm]; exact hi) hc
 ·rw [DP] at hk
  have e := g.ms k hk
  rw [CO hk,at1]
  have sm : ((f.getD a []).set b ((f.getD a []).getD b 0 + m)).sum = (f.getD a []).sum + m := by rw [Pi (by rw [lr]; exact hb)]; omega
  by_cases k0 : k = 0
  ·subst k0
   rw [if_pos rfl] at e ⊢
   by_cases a0 : 0 = a
   ·rw [if_pos a0,sm,if_pos ⟨by omega,hk⟩,e,<- a0]; omega
   ·rw [if_neg a0,if_neg (by omega),e]
  ·rw [if_neg k0] at e ⊢
   rw [CO (by omega : k - 1 < ms.length)]
   by_cases ka : k = a
   ·rw [if_pos ka,sm,if_pos ⟨by omega,hk⟩,if_neg (by omega),e,<- ka]; omega
   ·rw [if_neg ka]
    by_cases lt : a <= k
    ·rw [if_pos ⟨lt,hk⟩,if_pos ⟨by omega,by omega⟩,e]; omega
    ·rw [if_neg (by omega),if_neg (by omega),e]
end MF
end
section
namespace MF
open PySem PySem.Spec PyProof.Rows L2
variable {p : Int} {T : TM} {F : List (List Int)} {n : Nat}
def BL (p f cap co : Int) : Int := if co < p then (p - co) * (cap - f) else (co - p) * f
theorem Pj (p f cap co : Int) : co * f - p * f - Bv p (cap,co) = BL p f cap co := by
 unfold BL Bv
 dsimp only
 by_cases c : co < p
 ·rw [if_pos c,if_pos c,Int.mul_sub,Int.sub_mul,Int.mul_sub,Int.mul_sub,Int.mul_comm cap co,Int.mul_comm cap p]; omega
 ·rw [if_neg c,if_neg c,Int.sub_mul]; omega
theorem Kw {p f cap co : Int} (h0 : 0 <= f) (h1 : f <= cap) : 0 <= BL p f cap co := by
 unfold BL
 split
 ·exact Int.mul_nonneg (by omega) (by omega)
 ·exact Int.mul_nonneg (by omega) h0
theorem gapB_zero {f cap co : Int} : BL p f cap co = 0 ↔ (co < p -> f = cap) /\ (p < co -> f = 0) := by
 unfold BL
 by_cases c : co < p
 ·rw [if_pos c]
  refine ⟨fun h => ⟨fun _ => ?_,fun z => by omega⟩,fun h => by rw [h.1 c,Int.sub_self,Int.mul_zero]⟩
  rcases Int.mul_eq_zero.mp h with z | z <;> omega
 ·rw [if_neg c]
  refine ⟨fun h => ⟨fun z => absurd z c,fun z => ?_⟩,fun h => ?_⟩
  ·rcases Int.mul_eq_zero.mp h with z' | z'
   ·omega
   ·exact z'
  ·by_cases e : p < co
   ·rw [h.2 e,Int.mul_zero]
   ·have : co - p = 0 := by omega
    rw [this,Int.zero_mul]
def BU (p : Int) : List Int -> List Int -> List Int -> Int
 | f :: fs,c :: cs,o :: os => BL p f c o + BU p fs cs os
 | _,_,_ => 0
def Du : List Int -> List Int -> Int
 | f :: fs,o :: os => o * f + Du fs os
 | _,_ => 0
theorem Kx (p : Int) : ∀ (fs cs os : List Int),fs.length = os.length -> cs.length = os.length -> Du fs os - p * fs.sum - spared cs os p = BU p fs cs os
 | [],[],[],_,_ => by
  show (0 : Int) - p * 0 - 0 = 0
  rw [Int.mul_zero]; rfl
 | f :: fs,c :: cs,o :: os,h1,h2 => by
  have ih := Kx p fs cs os (Nat.succ.inj h1) (Nat.succ.inj h2)
  have e := Pj p f c o
  show o * f + Du fs os - p * (f + fs.sum) - (Bv p (c,o) + spared cs os p) = BL p f c o + BU p fs cs os
  rw [Int.mul_add]
  omega
 | [],_ :: _,os,h1,h2 => by rw [<- h1] at h2; cases h2
 | _ :: _,[],os,h1,h2 => by rw [<- h2] at h1; cases h1
 | [],[],_ :: _,h1,_ => by cases h1
 | _ :: _,_ :: _,[],h1,_ => by cases h1
theorem F3 {p : Int} : ∀ {fs cs os : List Int},(∀ b,b < os.length -> 0 <= fs.getD b 0 /\ fs.getD b 0 <= cs.getD b 0) -> 0 <= BU p fs cs os
 | f :: fs,c :: cs,o :: os,h => by
  have h0 := h 0 (Nat.succ_pos _)
  have ih := F3 (p := p) (fs := fs) (cs := cs) (os := os) fun b hb => h (b + 1) (Nat.succ_lt_succ hb)
  have := Kw (p := p) (co := o) h0.1 h0.2
  show 0 <= BL p f c o + BU p fs cs os
  have e : BL p ((f :: fs).getD 0 0) ((c :: cs).getD 0 0) o = BL p f c o := rfl
  omega
 | [],_,_,_ => Int.le_refl _
 | _ :: _,[],_,_ => Int.le_refl _
 | _ :: _,_ :: _,[],_ => Int.le_refl _
theorem HV {p : Int} : ∀ {fs cs os : List Int},fs.length = os.length -> cs.length = os.length -> (∀ b,b < os.length -> 0 <= fs.getD b 0 /\ fs.getD b 0 <= cs.getD b 0) -> (BU p fs cs os = 0 ↔ ∀ b,b < os.length -> BL p (fs.getD b 0) (cs.getD b 0) (os.getD b 0) = 0)
 | [],[],[],_,_,_ => ⟨fun _ b hb => absurd hb (Nat.not_lt_zero _),fun _ => rfl⟩
 | f :: fs,c :: cs,o :: os,l1,l2,h => by
  have h0 := h 0 (Nat.succ_pos _)
  have h' : ∀ b,b < os.length -> 0 <= fs.getD b 0 /\ fs.getD b 0 <= cs.getD b 0 := fun b hb => h (b + 1) (Nat.succ_lt_succ hb)
  have ih := HV (p := p) (Nat.succ.inj l1) (Nat.succ.inj l2) h'
  have p1 : 0 <= BL p f c o := Kw h0.1 h0.2
  have p2 := F3 (p := p) h'
  show BL p f c o + BU p fs cs os = 0 ↔ _
  refine ⟨fun z b hb => ?_,fun z => ?_⟩
  ·cases b with
   | zero => show BL p f c o = 0; omega
   | succ b => exact ih.mp (by omega) b (Nat.lt_of_succ_lt_succ hb)
  ·have a := z 0 (Nat.succ_pos _)
   have a' : BL p f c o = 0 := a
   have := ih.mpr fun b hb => z (b + 1) (Nat.succ_lt_succ hb)
   omega
 | [],_ :: _,os,h1,h2,_ => by rw [<- h1] at h2; cases h2
 | _ :: _,[],os,h1,h2,_ => by rw [<- h2] at h1; cases h1
 | [],[],_ :: _,h1,_,_ => by cases h1
 | _ :: _,_ :: _,[],h1,_,_ => by cases h1
def BV (lo hi p b m : Int) : Int := (p - b) * (m - (if b < p then lo else hi))
theorem Pk (lo hi p b m : Int) : (p - b) * m - B4 lo hi p b = BV lo hi p b m := by
 unfold BV B4
 rw [<- Int.mul_sub]
theorem Ky {lo hi b m : Int} (h0 : lo <= m) (h1 : m <= hi) : 0 <= BV lo hi p b m := by
 unfold BV
 split
 ·exact Int.mul_nonneg (by omega) (by omega)
 ·exact Int.mul_nonneg_of_nonpos_of_nonpos (by omega) (by omega)
theorem gapM_zero {lo hi b m : Int} : BV lo hi p b m = 0 ↔ (p < b -> m = hi) /\ (b < p -> m = lo) := by
 unfold BV
 by_cases c : b < p
 ·rw [if_pos c]
  refine ⟨fun h => ⟨fun z => by omega,fun _ => ?_⟩,fun h => by rw [h.2 c,Int.sub_self,Int.mul_zero]⟩
  rcases Int.mul_eq_zero.mp h with z | z <;> omega
 ·rw [if_neg c]
  refine ⟨fun h => ⟨fun z => ?_,fun z => absurd z c⟩,fun h => ?_⟩
  ·rcases Int.mul_eq_zero.mp h with z' | z' <;> omega
  ·by_cases e : p < b
   ·rw [h.1 e,Int.sub_self,Int.mul_zero]
   ·have : p - b = 0 := by omega
    rw [this,Int.zero_mul]
def CP (T : TM) (ns : List Int) (F : List (List Int)) (m bl : Nat -> Int) (h : Nat) : Int := BU (ns.getD h 0) (F.getD h []) (T.cs.getD h []) T.co + BV T.lo T.hi (ns.getD h 0) (ns.getD (h + 1) 0) (m (h + 1)) + ns.getD h 0 * bl h
def C8 (T : TM) (ns : List Int) (F : List (List Int)) (m bl : Nat -> Int) : Nat -> Int
 | 0 => 0
 | k + 1 => C8 T ns F m bl k + CP T ns F m bl k
def Dv (T : TM) (F : List (List Int)) : Nat -> Int
 | 0 => 0
 | k + 1 => Dv T F k + Du (F.getD k []) T.co
theorem HW {T : TM} {ns : List Int} {F : List (List Int)} {m bl : Nat -> Int} {n : Nat} (lf : ∀ h,h < n -> (F.getD h []).length = T.co.length) (lc : ∀ h,h < n -> (T.cs.getD h []).length = T.co.length)
  (bal : ∀ h,h < n -> m (h + 1) = m h + (F.getD h []).sum - T.ds.getD h 0 - bl h) : ∀ k,k <= n -> Dv T F k - BD T ns k = C8 T ns F m bl k + ns.getD k 0 * m k - ns.getD 0 0 * m 0
 | 0,_ => by
  show (0 : Int) - 0 = 0 + ns.getD 0 0 * m 0 - ns.getD 0 0 * m 0
  omega
 | k + 1,hk => by
  have ih := HW lf lc bal k (by omega) (ns := ns)
  have e1 := Kx (ns.getD k 0) (F.getD k []) (T.cs.getD k []) T.co (lf k (by omega)) (lc k (by omega))
  have e2 := Pk T.lo T.hi (ns.getD k 0) (ns.getD (k + 1) 0) (m (k + 1))
  have b := bal k (by omega)
  rw [DN]
  show Dv T F k + Du (F.getD k []) T.co - (BD T ns k + AW T k (ns.getD k 0) (ns.getD (k + 1) 0)) = C8 T ns F m bl k + CP T ns F m bl k + ns.getD (k + 1) 0 * m (k + 1) - ns.getD 0 0 * m 0
  unfold AW CP
  have b2 : ns.getD k 0 * m (k + 1) = ns.getD k 0 * m k + ns.getD k 0 * (F.getD k []).sum - ns.getD k 0 * T.ds.getD k 0 - ns.getD k 0 * bl k := by rw [b,Int.mul_sub,Int.mul_sub,Int.mul_add]
  rw [Int.sub_mul] at e2
  omega
theorem HX {ns : List Int} {m bl : Nat -> Int} (g : ∀ h,h < n -> 0 <= CP T ns F m bl h) : ∀ k,k <= n -> 0 <= C8 T ns F m bl k
 | 0,_ => Int.le_refl _
 | k + 1,hk => by
  have := HX g k (by omega)
  have := g k (by omega)
  show 0 <= C8 T ns F m bl k + CP T ns F m bl k
  omega
theorem Kz {ns : List Int} {m bl : Nat -> Int} (g : ∀ h,h < n -> 0 <= CP T ns F m bl h) : ∀ k,k <= n -> (C8 T ns F m bl k = 0 ↔ ∀ h,h < k -> CP T ns F m bl h = 0)
 | 0,_ => ⟨fun _ h hh => absurd hh (Nat.not_lt_zero _),fun _ => rfl⟩
 | k + 1,hk => by
  have ih := Kz g k (by omega)
  have p1 := HX g k (by omega)
  have p2 := g k (by omega)
  show C8 T ns F m bl k + CP T ns F m bl k = 0 ↔ _
  refine ⟨fun z h hh => ?_,fun z => ?_⟩
  ·by_cases e : h = k
   ·rw [e]; omega
   ·exact ih.mp (by omega) h (by omega)
  ·have := ih.mpr fun h hh => z h (by omega)
   have := z k (by omega)
   omega
end MF
end
section
namespace MF
open PySem PySem.Spec PyProof.Rows L2
theorem KA (f g : Nat -> Int) : ∀ n,((List.range n).map fun b => f b + g b).sum = ((List.range n).map f).sum + ((List.range n).map g).sum
 | 0 => rfl
 | n + 1 => by
  have ih := KA f g n
  simp only [List.range_succ,List.map_append,List.sum_append,List.map_cons,List.map_nil,List.sum_cons,List.sum_nil]
  omega
theorem Pl {α : Type} {bs : List α} (xs : Nat -> Int) (g : α -> Int) (d : α) : ((((List.range bs.length).map xs).zip bs).map fun q => q.1 * g q.2).sum = ((List.range bs.length).map fun b => xs b * g (bs.getD b d)).sum := by
 refine congrArg List.sum (List.ext_getElem ?_ fun i h1 h2 => ?_)
 ·simp
 ·have hi : i < bs.length := by simpa using h2
  simp [List.getElem_zip,List.getD_eq_getElem?_getD,hi]
theorem KB : ∀ (r co : List Int),r.length = co.length -> Du r co = ((List.range co.length).map fun b => co.getD b 0 * r.getD b 0).sum
 | [],[],_ => rfl
 | f :: r,o :: co,h => by
  have ih := KB r co (Nat.succ.inj h)
  rw [List.length_cons,Kp]
  show o * f + Du r co = o * f + _
  rw [ih]
  rfl
 | [],_ :: _,h => by cases h
 | _ :: _,[],h => by cases h
theorem KC {P : PL} {S : SY} {F : List (List Int)} (hr : ∀ h,h < F.length -> (F.getD h []).length = P.bs.length) : ∀ k,k <= F.length -> Dv (terms P S) F k = ((List.range P.bs.length).map fun b => ((F.take k).map fun r => r.getD b 0).sum * (P.bs.getD b (0,0)).2).sum
 | 0,_ => by
  show (0 : Int) = _
  have : (fun b => (((F.take 0).map fun r => r.getD b 0).sum : Int) * (P.bs.getD b (0,0)).2) = fun _ => 0 := funext fun b => by rw [List.take_zero,List.map_nil,List.sum_nil,Int.zero_mul]
  rw [this]
  induction P.bs.length with
  | zero => rfl
  | succ n ih => rw [List.range_succ,List.map_append,List.sum_append,<- ih]; rfl
 | k + 1,hk => by
  have ih := KC (S := S) hr k (by omega)
  have gk : F[k]? = some (F.getD k []) := by rw [List.getD_eq_getElem?_getD,List.getElem?_eq_getElem (by omega)]; rfl
  show Dv (terms P S) F k + Du (F.getD k []) (terms P S).co = _
  have lco : (terms P S).co.length = P.bs.length := by show (P.bs.map (·.2)).length = _; rw [List.length_map]
  rw [ih,KB _ _ (by rw [hr k (by omega),lco]),lco,<- KA]
  refine congrArg List.sum (List.map_congr_left fun b hb => ?_)
  have hb' := List.mem_range.mp hb
  rw [A3 gk,List.map_append,List.sum_append]
  have e1 : (terms P S).co.getD b 0 = (P.bs.getD b (0,0)).2 := by
   show (P.bs.map (·.2)).getD b 0 = _
   rw [List.getD_eq_getElem?_getD,List.getElem?_map,List.getElem?_eq_getElem hb',List.getD_eq_getElem?_getD,List.getElem?_eq_getElem hb']; rfl
  rw [e1,Int.add_mul]
  show _ + (P.bs.getD b (0,0)).2 * (F.getD k []).getD b 0 = _ + ((F.getD k []).getD b 0 + 0) * (P.bs.getD b (0,0)).2
  rw [Int.add_zero,Int.mul_comm ((F.getD k []).getD b 0)]
theorem KD {P : PL} {S : SY} {F : List (List Int)} (hr : ∀ h,h < F.length -> (F.getD h []).length = P.bs.length) : Dv (terms P S) F F.length = coal P F := by
 rw [KC hr _ (Nat.le_refl _),List.take_length]
 unfold coal B1
 exact (Pl (fun b => (F.map fun r : List Int => r.getD b 0).sum) (fun q : Int × Int => q.2) (0,0)).symm
end MF
end
section
namespace MF
open PySem PySem.Spec PyProof.Rows L2
variable {P : PL} {S : SY} {F : List (List Int)}
structure KF (P : PL) (S : SY) (F : List (List Int)) (ns : List Int) (h : Nat) : Prop where
 b : ∀ b,b < P.bs.length -> ((P.bs.getD b (0,0)).2 < ns.getD h 0 -> (F.getD h []).getD b 0 = ((caps P S).getD h []).getD b 0) /\ (ns.getD h 0 < (P.bs.getD b (0,0)).2 -> (F.getD h []).getD b 0 = 0)
 up : ns.getD h 0 < ns.getD (h + 1) 0 -> Ay P S F (h + 1) = P.hi
 dn : ns.getD (h + 1) 0 < ns.getD h 0 -> Ay P S F (h + 1) = P.lo
 bl : 0 < ns.getD h 0 -> A1 P.hi (AH P S F h) = 0
theorem KG (hi m : Int) : 0 <= A1 hi m := by unfold A1; split <;> omega
theorem F4 (ok : P.ok) {h : Nat} (up : P.lo <= AH P S F h) : P.lo <= Ay P S F (h + 1) /\ Ay P S F (h + 1) <= P.hi := by
 have l := ok.ls
 have s := ok.sh
 rw [Ca]
 unfold A1
 split <;> omega
theorem F5 {r : List Int} {b : Nat} (h : b < r.length) : r[b]? = some (r.getD b 0) := by rw [List.getD_eq_getElem?_getD,List.getElem?_eq_getElem h]; rfl
theorem HY {b : Nat} (hb : b < P.bs.length) : (terms P S).co.getD b 0 = (P.bs.getD b (0,0)).2 := by
 show (P.bs.map (·.2)).getD b 0 = _
 rw [List.getD_eq_getElem?_getD,List.getElem?_map,List.getElem?_eq_getElem hb,List.getD_eq_getElem?_getD,List.getElem?_eq_getElem hb]; rfl
theorem Pm {ns : List Int} (ok : P.ok) (so : S.ok P.bs.length) (fo : DM P S F) (up : ∀ i,i < S.ex.length -> P.lo <= AH P S F i) (ln : ns.length = S.ex.length) (nn : ∀ x ∈ ns,0 <= x) :
  A5 (terms P S) ns = coal P F ↔ ∀ h,h < S.ex.length -> KF P S F ns h := by
 have fl := Cb ok so
 have lco : (terms P S).co.length = P.bs.length := by show (P.bs.map (·.2)).length = _; rw [List.length_map]
 have gF : ∀ h,h < S.ex.length -> F[h]? = some (F.getD h []) := fun h hh => by rw [List.getD_eq_getElem?_getD,List.getElem?_eq_getElem (by rw [fo.len]; exact hh)]; rfl
 have lF : ∀ h,h < S.ex.length -> (F.getD h []).length = P.bs.length := fun h hh => fo.row h _ (gF h hh)
 have eC : ∀ h,h < S.ex.length -> (terms P S).cs.getD h [] = Bs P.bs S.fs h := fun h hh => by
  show (caps P S).getD h [] = _
  rw [List.getD_eq_getElem?_getD,Do hh]; rfl
 have lC : ∀ h,h < S.ex.length -> ((terms P S).cs.getD h []).length = P.bs.length := fun h hh => by
  rw [<- lco]
  exact (fl.c _ (getD_mem (by show h < (caps P S).length; rw [C0]; exact hh))).1
 have bd : ∀ h,h < S.ex.length -> ∀ b,b < (terms P S).co.length -> 0 <= (F.getD h []).getD b 0 /\ (F.getD h []).getD b 0 <= ((terms P S).cs.getD h []).getD b 0 := fun h hh b hb => by
  rw [lco] at hb
  have x1 : (F.getD h [])[b]? = some ((F.getD h []).getD b 0) := by
   exact F5 (by rw [lF h hh]; exact hb)
  have x2 : (Bs P.bs S.fs h)[b]? = some (((terms P S).cs.getD h []).getD b 0) := by
   rw [<- eC h hh]
   exact F5 (by rw [lC h hh]; exact hb)
  exact fo.bd h _ b _ _ (gF h hh) x1 x2
 have pn : ∀ h,0 <= ns.getD h 0 := fun h => by
  by_cases hh : h < ns.length
  ·exact nn _ (getD_mem hh)
  ·rw [List.getD_eq_getElem?_getD,List.getElem?_eq_none (by omega)]; exact Int.le_refl _
 have gp : ∀ h,h < S.ex.length -> 0 <= BU (ns.getD h 0) (F.getD h []) ((terms P S).cs.getD h []) (terms P S).co /\ 0 <= BV P.lo P.hi (ns.getD h 0) (ns.getD (h + 1) 0) (Ay P S F (h + 1)) /\ 0 <= ns.getD h 0 * A1 P.hi (AH P S F h) := fun h hh =>
  ⟨F3 (bd h hh),Ky (F4 ok (up h hh)).1 (F4 ok (up h hh)).2,Int.mul_nonneg (pn h) (KG _ _)⟩
 have gpos : ∀ h,h < S.ex.length -> 0 <= CP (terms P S) ns F (Ay P S F) (fun h => A1 P.hi (AH P S F h)) h := fun h hh => by
  obtain ⟨a,b,c⟩ := gp h hh
  show 0 <= BU (ns.getD h 0) (F.getD h []) ((terms P S).cs.getD h []) (terms P S).co + BV P.lo P.hi (ns.getD h 0) (ns.getD (h + 1) 0) (Ay P S F (h + 1)) + ns.getD h 0 * A1 P.hi (AH P S F h)
  omega
 have gs := HW (T := terms P S) (ns := ns) (F := F) (m := Ay P S F) (bl := fun h => A1 P.hi (AH P S F h)) (n := S.ex.length) (fun h hh => by rw [lF h hh,lco]) (fun h hh => by rw [lC h hh,lco]) (fun h hh => by
  rw [Ca]
  show AH P S F h - _ = Ay P S F h + (F.getD h []).sum - (draws P S).getD h 0 - _
  unfold AH made BR
  omega) S.ex.length (Nat.le_refl _)
 have z0 : ns.getD S.ex.length 0 = 0 := by rw [List.getD_eq_getElem?_getD,List.getElem?_eq_none (by omega)]; rfl
 have ec : Dv (terms P S) F S.ex.length = coal P F := by
  have := KD (P := P) (S := S) (F := F) fun h hh => lF h (by rw [<- fo.len]; exact hh)
  rw [fo.len] at this; exact this
 rw [z0,Int.zero_mul,ec] at gs
 have ef : A5 (terms P S) ns = BD (terms P S) ns S.ex.length - ns.getD 0 0 * P.st := by unfold A5; rw [ln]; rfl
 have m0 : Ay P S F 0 = P.st := rfl
 rw [m0] at gs
 have key : A5 (terms P S) ns = coal P F ↔ C8 (terms P S) ns F (Ay P S F) (fun h => A1 P.hi (AH P S F h)) S.ex.length = 0 := by
  rw [ef]; constructor <;> intro z <;> omega
 rw [key,Kz gpos S.ex.length (Nat.le_refl _)]
 refine forall_congr' fun h => ⟨fun z hh => ?_,fun z hh => ?_⟩
 ·have z' := z hh
  obtain ⟨a,b,c⟩ := gp h hh
  have z2 : BU (ns.getD h 0) (F.getD h []) ((terms P S).cs.getD h []) (terms P S).co + BV P.lo P.hi (ns.getD h 0) (ns.getD (h + 1) 0) (Ay P S F (h + 1)) + ns.getD h 0 * A1 P.hi (AH P S F h) = 0 := z'
  have r0 := (HV (by rw [lF h hh,lco]) (by rw [lC h hh,lco]) (bd h hh)).mp (show BU (ns.getD h 0) (F.getD h []) ((terms P S).cs.getD h []) (terms P S).co = 0 by omega)
  have g0 := gapM_zero.mp (show BV P.lo P.hi (ns.getD h 0) (ns.getD (h + 1) 0) (Ay P S F (h + 1)) = 0 by omega)
  refine ⟨fun b hb => ?_,g0.1,g0.2,fun pp => ?_⟩
  ·have := gapB_zero.mp (r0 b (by rw [lco]; exact hb))
   rw [HY hb] at this
   exact this
  ·rcases Int.mul_eq_zero.mp (show ns.getD h 0 * A1 P.hi (AH P S F h) = 0 by omega) with y | y
   ·omega
   ·exact y
 ·have g := z hh
  have r0 := (HV (p := ns.getD h 0) (by rw [lF h hh,lco]) (by rw [lC h hh,lco]) (bd h hh)).mpr fun b hb => gapB_zero.mpr (by
   rw [lco] at hb
   rw [HY hb]
   exact g.b b hb)
  have g0 : BV P.lo P.hi (ns.getD h 0) (ns.getD (h + 1) 0) (Ay P S F (h + 1)) = 0 := gapM_zero.mpr ⟨g.up,g.dn⟩
  have b0 : ns.getD h 0 * A1 P.hi (AH P S F h) = 0 := by
   by_cases pp : 0 < ns.getD h 0
   ·rw [g.bl pp,Int.mul_zero]
   ·have : ns.getD h 0 = 0 := by have := pn h; omega
    rw [this,Int.zero_mul]
  show BU _ _ _ _ + BV P.lo P.hi _ _ _ + ns.getD h 0 * A1 P.hi (AH P S F h) = 0
  rw [r0,g0,b0]; rfl
end MF
end
section
namespace MF
open PySem PySem.Spec PyProof.Rows L2
variable {k h : Nat} {T : TM} {ps : List Int} {P : PL} {S : SY}
structure Opt (T : TM) (f : List (List Int)) (ms : List Int) (h : Nat) (ps : List Int) : Prop where
 len : ps.length = T.ds.length
 as : Asked T ps
 z : ∀ k,h < k -> ps.getD k 0 = 0
 b : ∀ k b,k < T.ds.length -> b < T.co.length -> (T.co.getD b 0 < ps.getD k 0 -> (f.getD k []).getD b 0 = (T.cs.getD k []).getD b 0) /\ (ps.getD k 0 < T.co.getD b 0 -> (f.getD k []).getD b 0 = 0)
 up : ∀ k,k < h -> ps.getD k 0 < ps.getD (k + 1) 0 -> ms.getD k 0 = T.hi
 dn : ∀ k,k < h -> ps.getD (k + 1) 0 < ps.getD k 0 -> ms.getD k 0 = T.lo
 hi : ∀ k,k < T.ds.length -> ms.getD k 0 <= T.hi
 mon : ∀ k,h <= k -> k + 1 < T.ds.length -> ms.getD (k + 1) 0 <= ms.getD k 0
theorem F6 {l : List Int} (h : l.length <= k) : l.getD k 0 = 0 := by rw [List.getD_eq_getElem?_getD,List.getElem?_eq_none h]; rfl
theorem Asked.pos (fl : A9 T) {ps : List Int} (a : Asked T ps) (k : Nat) : 0 <= ps.getD k 0 := by
 by_cases h : k < ps.length
 ·rcases List.mem_cons.mp (a _ (getD_mem (d := 0) h)) with e | e
  ·omega
  ·have := fl.o1 _ e; omega
 ·rw [F6 (by omega)]; exact Int.le_refl _
theorem HZ (ms : List Int) (hi : Int) : ∀ h,∃ r,r <= h /\ (∀ j,r <= j -> j < h -> ms.getD j 0 < hi) /\ (r = 0 \/ hi <= ms.getD (r - 1) 0)
 | 0 => ⟨0,Nat.le_refl _,fun j _ hj => absurd hj (Nat.not_lt_zero _),.inl rfl⟩
 | h + 1 => by
  by_cases c : ms.getD h 0 < hi
  ·obtain ⟨r,h1,h2,h3⟩ := HZ ms hi h
   refine ⟨r,by omega,fun j a b => ?_,h3⟩
   by_cases e : j = h
   ·subst e; exact c
   ·exact h2 j a (by omega)
  ·exact ⟨h + 1,Nat.le_refl _,fun j a b => by omega,.inr (by rw [Nat.add_sub_cancel]; omega)⟩
theorem KH {ms : List Int} {hi : Int} {a h j : Nat} (hh : h <= ms.length) (h1 : a <= j) (h2 : j < h) : Co ms hi a h <= hi - ms.getD j 0 := by
 have m : hi - ms.getD j 0 ∈ ((ms.take h).drop a).map (hi - ·) := by
  refine List.mem_map.mpr ⟨ms.getD j 0,?_,rfl⟩
  refine List.mem_of_getElem? (i := j - a) ?_
  rw [List.getElem?_drop,show a + (j - a) = j by omega,List.getElem?_take,if_pos h2,List.getD_eq_getElem?_getD,List.getElem?_eq_getElem (by omega)]; rfl
 unfold Co
 cases e : ((ms.take h).drop a).map (hi - ·) with
 | nil => rw [e] at m; cases m
 | cons x xs => rw [e] at m; exact HU x xs _ m
theorem Opt.next (fl : A9 T) {f : List (List Int)} {ms : List Int} {h : Nat} {ps : List Int} (o : Opt T f ms h ps) (l1 : T.lo <= ms.getD h 0) (l2 : 0 < ps.getD h 0 -> ms.getD h 0 <= T.lo) : Opt T f ms (h + 1) ps := by
 have z1 := o.z (h + 1) (by omega)
 refine ⟨o.len,o.as,fun k hk => o.z k (by omega),o.b,fun k hk c => ?_,fun k hk c => ?_,o.hi,fun k hk => o.mon k (by omega)⟩
 ·by_cases e : k = h
  ·subst e
   have := o.as.pos fl k
   omega
  ·exact o.up k (by omega) c
 ·by_cases e : k = h
  ·subst e
   have := l2 (by omega)
   omega
  ·exact o.dn k (by omega) c
def DQ (ps : List Int) (r h : Nat) (c : Int) : List Int := (List.range ps.length).map fun k => if r <= k /\ k <= h then max (ps.getD k 0) c else ps.getD k 0
theorem KI {r : Nat} {c : Int} : (DQ ps r h c).length = ps.length := by unfold DQ; rw [List.length_map,List.length_range]
theorem Pn {r : Nat} {c : Int} (hk : k < ps.length) : (DQ ps r h c).getD k 0 = if r <= k /\ k <= h then max (ps.getD k 0) c else ps.getD k 0 := by
 unfold DQ
 rw [List.getD_eq_getElem?_getD,List.getElem?_map,List.getElem?_range hk]; rfl
theorem Opt.step (fl : A9 T) (lh : T.lo <= T.hi) {f : List (List Int)} {ms : List Int} {h : Nat} {ps : List Int} (o : Opt T f ms h ps) (g : Gr T f ms) (hh : h < T.ds.length) {a b : Nat} {m : Int} (ha : a <= h) (hb : b < T.co.length) (may : CN T f ms h a b)
  (best : ∀ a' b',a' <= h -> b' < T.co.length -> CN T f ms h a' b' -> T.co.getD b 0 <= T.co.getD b' 0) (m0 : 0 < m) (m1 : m <= T.lo - ms.getD h 0) (m2 : m <= (T.cs.getD a []).getD b 0 - (f.getD a []).getD b 0) (m3 : m <= Co ms T.hi a h) :
  ∃ ps',Opt T (C7 f a b m) (BK ms a ms.length m) h ps' := by
 have lm := g.lm
 have lf := g.lf
 have lo := o.len
 obtain ⟨r,rh,rin,rout⟩ := HZ ms T.hi h
 -- the hour that makes more is among those that HZ the hour
 have ra : r <= a := by
  rcases rout with e | e
  ·omega
  ·refine Nat.not_lt.mp fun lt => ?_
   have := KH (ms := ms) (hi := T.hi) (a := a) (h := h) (j := r - 1) (by omega) (by omega) (by omega)
   omega
 have c0 : 1 <= T.co.getD b 0 := (fl.o1 _ (getD_mem hb)).1
 -- prices fall among them
 have fall1 : ∀ k,r <= k -> k < h -> ps.getD (k + 1) 0 <= ps.getD k 0 := fun k h1 h2 => by
  refine Int.not_lt.mp fun lt => ?_
  have := o.up k h2 lt
  have := rin k h1 h2
  omega
 have fall : ∀ d k,r <= k -> k + d <= h -> ps.getD (k + d) 0 <= ps.getD k 0 := fun d => by
  induction d with
  | zero => intro k _ _; exact Int.le_refl _
  | succ d ih =>
   intro k h1 h2
   have := ih k h1 (by omega)
   have := fall1 (k + d) (by omega) (by omega)
   rw [<- Nat.add_assoc]; omega
 have pa : ps.getD a 0 <= T.co.getD b 0 := by
  refine Int.not_lt.mp fun lt => ?_
  have := (o.b a b (by omega) hb).1 lt
  have := may.1
  omega
 have pk : ∀ k,a <= k -> k <= h -> ps.getD k 0 <= T.co.getD b 0 := fun k h1 h2 => by
  have := fall (k - a) a ra (by omega)
  rw [show a + (k - a) = k by omega] at this
  omega
 have at1 : ∀ i,(C7 f a b m).getD i [] = if i = a then (f.getD a []).set b ((f.getD a []).getD b 0 + m) else f.getD i [] := fun i => EW (by omega)
 have fsame : ∀ k c,(k ≠ a \/ c ≠ b) -> ((C7 f a b m).getD k []).getD c 0 = (f.getD k []).getD c 0 := fun k c hn => by
  rw [at1]
  split
  ·rename_i e
   subst e
   rw [EW (by rw [g.row k (by omega)]; exact hb),if_neg (by
    intro z
    rcases hn with hn | hn
    ·exact hn rfl
    ·exact hn z)]
  ·rfl
 have msame : ∀ k,k < a -> (BK ms a ms.length m).getD k 0 = ms.getD k 0 := fun k hk => by
  rw [CO (by omega),if_neg (by omega)]
 have q : ∀ k,k < T.ds.length -> (DQ ps r h (T.co.getD b 0)).getD k 0 = if r <= k /\ k <= h then max (ps.getD k 0) (T.co.getD b 0) else ps.getD k 0 := fun k hk => Pn (by omega)
 refine ⟨DQ ps r h (T.co.getD b 0),by rw [KI]; exact lo,fun x hx => ?_,fun k hk => ?_,fun k b' hk hb' => ?_,fun k hk c => ?_,fun k hk c => ?_,fun k hk => ?_,fun k hk hk2 => ?_⟩
 ·unfold DQ at hx
  obtain ⟨k,hk,rfl⟩ := List.mem_map.mp hx
  have hk' := List.mem_range.mp hk
  have a1 := o.as _ (getD_mem (l := ps) (d := 0) hk')
  have a2 : T.co.getD b 0 ∈ 0 :: T.co := List.mem_cons_of_mem _ (getD_mem hb)
  split
  ·rcases Int.le_total (ps.getD k 0) (T.co.getD b 0) with z | z
   ·rw [Int.max_eq_right z]; exact a2
   ·rw [Int.max_eq_left z]; exact a1
  ·exact a1
 ·by_cases e : k < T.ds.length
  ·rw [q k e,if_neg (by omega)]; exact o.z k hk
  ·exact F6 (by rw [KI]; omega)
 ·have ob := o.b k b' hk hb'
  rw [q k hk]
  by_cases inr : r <= k /\ k <= h
  ·rw [if_pos inr]
   refine ⟨fun lt => ?_,fun lt => ?_⟩
   ·have ne : k ≠ a \/ b' ≠ b := by
     by_cases e1 : k = a
     ·by_cases e2 : b' = b
      ·subst e1 e2; omega
      ·exact .inr e2
     ·exact .inl e1
    rw [fsame k b' ne]
    by_cases c : T.co.getD b' 0 < ps.getD k 0
    ·exact ob.1 c
    ·have lt2 : T.co.getD b' 0 < T.co.getD b 0 := by omega
     have bd := g.bd k b' (by omega) hb'
     have nm : ¬ CN T f ms h k b' := fun mm => by
      have := best k b' inr.2 hb' mm
      omega
     have rp : 0 < Co ms T.hi k h := Kv (by omega) (fun j j1 j2 => rin j (by omega) j2) (by omega)
     have : ¬ (f.getD k []).getD b' 0 < (T.cs.getD k []).getD b' 0 := fun z => nm ⟨z,rp⟩
     omega
   ·have ne : k ≠ a \/ b' ≠ b := by
     by_cases e2 : b' = b
     ·subst e2; omega
     ·exact .inr e2
    rw [fsame k b' ne]
    exact ob.2 (by omega)
  ·rw [if_neg inr]
   rw [fsame k b' (.inl (by omega))]
   exact ob
 ·rw [q k (by omega),q (k + 1) (by omega)] at c
  by_cases k1 : r <= k
  ·rw [if_pos ⟨k1,by omega⟩,if_pos ⟨by omega,by omega⟩] at c
   have := fall1 k k1 hk
   omega
  ·rw [msame k (by omega)]
   rw [if_neg (by omega)] at c
   by_cases k2 : r <= k + 1
   ·have er : r - 1 = k := by omega
    rcases rout with e | e
    ·omega
    ·rw [er] at e
     have := o.hi k (by omega)
     omega
   ·rw [if_neg (by omega)] at c
    exact o.up k hk c
 ·rw [q k (by omega),q (k + 1) (by omega)] at c
  by_cases k1 : r <= k
  ·rw [if_pos (show r <= k + 1 /\ k + 1 <= h by omega),if_pos (show r <= k /\ k <= h by omega)] at c
   have lt : k < a := Nat.not_le.mp fun z => by
    have := pk k z (by omega)
    omega
   rw [msame k lt]
   exact o.dn k hk (by omega)
  ·rw [msame k (by omega)]
   rw [if_neg (show ¬ (r <= k /\ k <= h) by omega)] at c
   by_cases k2 : r <= k + 1
   ·rw [if_pos ⟨k2,by omega⟩] at c
    exact o.dn k hk (by omega)
   ·rw [if_neg (by omega)] at c
    exact o.dn k hk c
 ·rw [CO (by omega)]
  split
  ·rename_i hc
   by_cases e : k < h
   ·have := KH (ms := ms) (hi := T.hi) (a := a) (h := h) (j := k) (by omega) hc.1 e
    omega
   ·have mono : ∀ d,h + d < T.ds.length -> ms.getD (h + d) 0 <= ms.getD h 0 := fun d => by
     induction d with
     | zero => intro _; exact Int.le_refl _
     | succ d ih =>
      intro hd
      have := ih (by omega)
      have := o.mon (h + d) (by omega) (by omega)
      rw [<- Nat.add_assoc]; omega
    have := mono (k - h) (by omega)
    rw [show h + (k - h) = k by omega] at this
    omega
  ·exact o.hi k hk
 ·rw [CO (by omega),CO (by omega),if_pos ⟨by omega,by omega⟩,if_pos ⟨by omega,by omega⟩]
  have := o.mon k hk hk2
  omega
theorem Po {F : List (List Int)} {ns : List Int} (ok : P.ok) (so : S.ok P.bs.length) (fo : DM P S F) (up : ∀ i,i < S.ex.length -> P.lo <= AH P S F i) (ln : ns.length = S.ex.length) (nn : ∀ x ∈ ns,0 <= x) : A5 (terms P S) ns <= coal P F := by
 have fl := Cb ok so
 have lco : (terms P S).co.length = P.bs.length := by show (P.bs.map (·.2)).length = _; rw [List.length_map]
 have gF : ∀ h,h < S.ex.length -> F[h]? = some (F.getD h []) := fun h hh => by rw [List.getD_eq_getElem?_getD,List.getElem?_eq_getElem (by rw [fo.len]; exact hh)]; rfl
 have lF : ∀ h,h < S.ex.length -> (F.getD h []).length = P.bs.length := fun h hh => fo.row h _ (gF h hh)
 have eC : ∀ h,h < S.ex.length -> (terms P S).cs.getD h [] = Bs P.bs S.fs h := fun h hh => by
  show (caps P S).getD h [] = _
  rw [List.getD_eq_getElem?_getD,Do hh]; rfl
 have lC : ∀ h,h < S.ex.length -> ((terms P S).cs.getD h []).length = P.bs.length := fun h hh => by
  rw [<- lco]
  exact (fl.c _ (getD_mem (by show h < (caps P S).length; rw [C0]; exact hh))).1
 have bd : ∀ h,h < S.ex.length -> ∀ b,b < (terms P S).co.length -> 0 <= (F.getD h []).getD b 0 /\ (F.getD h []).getD b 0 <= ((terms P S).cs.getD h []).getD b 0 := fun h hh b hb => by
  rw [lco] at hb
  have x1 : (F.getD h [])[b]? = some ((F.getD h []).getD b 0) := by
   exact F5 (by rw [lF h hh]; exact hb)
  have x2 : (Bs P.bs S.fs h)[b]? = some (((terms P S).cs.getD h []).getD b 0) := by
   rw [<- eC h hh]
   exact F5 (by rw [lC h hh]; exact hb)
  exact fo.bd h _ b _ _ (gF h hh) x1 x2
 have pn : ∀ h,0 <= ns.getD h 0 := fun h => by
  by_cases hh : h < ns.length
  ·exact nn _ (getD_mem hh)
  ·rw [List.getD_eq_getElem?_getD,List.getElem?_eq_none (by omega)]; exact Int.le_refl _
 have gp : ∀ h,h < S.ex.length -> 0 <= BU (ns.getD h 0) (F.getD h []) ((terms P S).cs.getD h []) (terms P S).co /\ 0 <= BV P.lo P.hi (ns.getD h 0) (ns.getD (h + 1) 0) (Ay P S F (h + 1)) /\ 0 <= ns.getD h 0 * A1 P.hi (AH P S F h) := fun h hh =>
  ⟨F3 (bd h hh),Ky (F4 ok (up h hh)).1 (F4 ok (up h hh)).2,Int.mul_nonneg (pn h) (KG _ _)⟩
 have gpos : ∀ h,h < S.ex.length -> 0 <= CP (terms P S) ns F (Ay P S F) (fun h => A1 P.hi (AH P S F h)) h := fun h hh => by
  obtain ⟨a,b,c⟩ := gp h hh
  show 0 <= BU (ns.getD h 0) (F.getD h []) ((terms P S).cs.getD h []) (terms P S).co + BV P.lo P.hi (ns.getD h 0) (ns.getD (h + 1) 0) (Ay P S F (h + 1)) + ns.getD h 0 * A1 P.hi (AH P S F h)
  omega
 have gs := HW (T := terms P S) (ns := ns) (F := F) (m := Ay P S F) (bl := fun h => A1 P.hi (AH P S F h)) (n := S.ex.length) (fun h hh => by rw [lF h hh,lco]) (fun h hh => by rw [lC h hh,lco]) (fun h hh => by
  rw [Ca]
  show AH P S F h - _ = Ay P S F h + (F.getD h []).sum - (draws P S).getD h 0 - _
  unfold AH made BR
  omega) S.ex.length (Nat.le_refl _)
 have z0 : ns.getD S.ex.length 0 = 0 := by rw [List.getD_eq_getElem?_getD,List.getElem?_eq_none (by omega)]; rfl
 have ec : Dv (terms P S) F S.ex.length = coal P F := by
  have := KD (P := P) (S := S) (F := F) fun h hh => lF h (by rw [<- fo.len]; exact hh)
  rw [fo.len] at this; exact this
 rw [z0,Int.zero_mul,ec] at gs
 have ef : A5 (terms P S) ns = BD (terms P S) ns S.ex.length - ns.getD 0 0 * P.st := by unfold A5; rw [ln]; rfl
 have m0 : Ay P S F 0 = P.st := rfl
 rw [m0] at gs
 have pos : ∀ k,k <= S.ex.length -> 0 <= C8 (terms P S) ns F (Ay P S F) (fun h => A1 P.hi (AH P S F h)) k := HX gpos
 have := pos S.ex.length (Nat.le_refl _)
 rw [ef]; omega
theorem Ia {f : List (List Int)} {ms : List Int} (g : Gr (terms P S) f ms) (hi : ∀ k,k < S.ex.length -> ms.getD k 0 <= P.hi) : ∀ k,k < S.ex.length -> AH P S f k = ms.getD k 0 /\ Ay P S f (k + 1) = ms.getD k 0 := by
 have lds : (terms P S).ds.length = S.ex.length := draws_len
 have one : ∀ k,k < S.ex.length -> Ay P S f k = (if k = 0 then P.st else ms.getD (k - 1) 0) -> AH P S f k = ms.getD k 0 /\ Ay P S f (k + 1) = ms.getD k 0 := fun k hk e => by
  have m : ms.getD k 0 = (if k = 0 then P.st else ms.getD (k - 1) 0) + (f.getD k []).sum - (draws P S).getD k 0 := g.ms k (by rw [g.lm,lds]; exact hk)
  have pe : AH P S f k = ms.getD k 0 := by
   unfold AH made BR
   rw [e,m]; omega
  refine ⟨pe,?_⟩
  have h := hi k hk
  rw [Ca,pe]
  unfold A1
  split <;> omega
 intro k
 induction k with
 | zero => intro hk; exact one 0 hk rfl
 | succ k ih =>
  intro hk
  refine one (k + 1) hk ?_
  rw [if_neg (Nat.succ_ne_zero k),Nat.add_sub_cancel]
  exact (ih (by omega)).2
theorem Pp {f : List (List Int)} {ms : List Int} (g : Gr (terms P S) f ms) (o : Opt (terms P S) f ms S.ex.length ps) : ∀ h,h < S.ex.length -> KF P S f ps h := fun h hh => by
 have lds : (terms P S).ds.length = S.ex.length := draws_len
 have gm := Ia g (fun k hk => o.hi k (by rw [lds]; exact hk)) h hh
 refine ⟨fun b hb => ?_,fun c => ?_,fun c => ?_,fun c => ?_⟩
 ·have lco : (terms P S).co.length = P.bs.length := by show (P.bs.map (·.2)).length = _; rw [List.length_map]
  have := o.b h b (by rw [lds]; exact hh) (by rw [lco]; exact hb)
  rw [HY hb] at this
  exact this
 ·rw [gm.2]; exact o.up h hh c
 ·rw [gm.2]; exact o.dn h hh c
 ·have := o.hi h (by rw [lds]; exact hh)
  have e : (terms P S).hi = P.hi := rfl
  rw [gm.1]
  unfold A1
  split <;> omega
theorem Pq {f : List (List Int)} {ms : List Int} {c : Int} {qs : List Int} (ok : P.ok) (so : S.ok P.bs.length) (fo : DM P S f) (g : Gr (terms P S) f ms) (o : Opt (terms P S) f ms S.ex.length ps) (lo : ∀ k,k < ms.length -> P.lo <= ms.getD k 0) (hf : A4 (terms P S) c qs) : c = coal P f := by
 have fl := Cb ok so
 have lds : (terms P S).ds.length = S.ex.length := draws_len
 have up : ∀ i,i < S.ex.length -> P.lo <= AH P S f i := fun i hi => by
  rw [(Ia g (fun k hk => o.hi k (by rw [lds]; exact hk)) i hi).1]
  exact lo i (by rw [g.lm,lds]; exact hi)
 have pos : ∀ {rs : List Int},Asked (terms P S) rs -> ∀ x ∈ rs,0 <= x := fun a x hx => by
  rcases List.mem_cons.mp (a x hx) with e | e
  ·omega
  ·have := fl.o1 _ e; omega
 have e1 := (Pm ok so fo up (by rw [o.len,lds]) (pos o.as)).mpr (Pp g o)
 have h1 := hf.top ps o.len o.as
 have h2 := Po ok so fo up (by rw [hf.len,lds]) (pos hf.as)
 have := hf.val
 omega
end MF
end
section
namespace L2
open PySem PySem.Spec PyProof.Rows
def Pr (P : Nat -> Value -> Prop) (val : Nat -> Int) (j : Nat) (its : Array Value) : Prop :=
 (j = 0 /\ its = #[]) \/ ∃ i v,i < j /\ P i v /\ its = #[v,v] /\ ∀ k,k < j -> val i <= val k
def KJ (P : Nat -> Value -> Prop) (val : Nat -> Int) (n : Nat) (d r : Value) : Prop := (n = 0 /\ r = d) \/ ∃ i,i < n /\ P i r /\ ∀ k,k < n -> val i <= val k
section
variable {prog : Program} {w : World} {A : Around} {R : Result -> Shared -> Prop} {I : Addr} {fp wr : List Addr} {n : Nat} {P : Nat -> Value -> Prop} {St : Nat -> Heap -> Prop}
theorem Ps (W : Walks prog w A.in1 I fp wr n P St) (val : Nat -> Int) (hv : ∀ i v,P i v -> ∃ t,v = .int (val i) t) (d : Value) (B : Addr) (nB : B ∉ fp) :
  ∀ (left j : Nat) (s : Shared) (its : Array Value) (c : Nat),j + left = n -> St j s.heap -> s.heap.get? B = some { cls := .type "list",dict := none,data := .seq its c,slots := #[] } -> Pr P val j its ->
  (∀ r h' tk,KJ P val n d r -> (∀ b o,b ∉ wr -> b ≠ B -> s.heap.get? b = some o -> h'.get? b = some o) -> R (.ok (.ret r)) { s with heap := h',toks := tk }) ->
  codeAny (model prog w) A (.builtin "min.loop" ⟨[.ref I,.none,.ref B],[("default",d)]⟩) R s := by
 have nw : B ∉ wr := fun z => nB (W.sub _ z)
 have nm : (toString "min" ++ toString ".loop" : String) = "min.loop" := by decide
 intro left
 induction left with
 | zero =>
  intro j s its c e st at0 pb k0
  have ej : j = n := by omega
  subst ej
  refine codeAny_builtin F.entry_min_loop ?_; rw [Around.under_plainId F.plain_min_loop _]
  show wpAny _ A.in1 (seqItems? (.ref B) >>= _) _ _ s
  refine wpAny_bind (wpAny_seqItems at0 rfl ?_); show wpAny _ A.in1 (tryCatch (pyNext (.ref I)) _ >>= _) _ _ s
  refine wpAny_bind (wpAny_tryCatch (W.done s _ _ st fun h1 tk1 keep1 => ?_))
  have at1 := keep1 B _ nw at0
  rcases pb with ⟨e0,rfl⟩ | ⟨i,v,hi,pv,rfl,le⟩
  ·show wpAny _ A.in1 (rule _ >>= _) _ _ _
   refine wpAny_bind (wpAny_rule (wpAny_pure (k0 d _ tk1 (.inl ⟨e0,rfl⟩) fun b o b1 b2 e1 => keep1 b o b1 e1)))
  ·show wpAny _ A.in1 (updateSeq B (fun _ => #[]) >>= _) _ _ _
   refine wpAny_bind (wpAny_updateSeq at1 rfl (wpAny_bind (wpAny_letGo (wpAny_pure ?_))))
   exact k0 v _ tk1 (.inr ⟨i,hi,pv,le⟩) fun b o b1 b2 e1 => (Heap.get?_update_other _ _ (Ne.symm b2)).trans (keep1 b o b1 e1)
 | succ left ih =>
  intro j s its c e st at0 pb k0
  refine codeAny_builtin F.entry_min_loop ?_; rw [Around.under_plainId F.plain_min_loop _]
  show wpAny _ A.in1 (seqItems? (.ref B) >>= _) _ _ s
  refine wpAny_bind (wpAny_seqItems at0 rfl ?_); show wpAny _ A.in1 (tryCatch (pyNext (.ref I)) _ >>= _) _ _ s
  refine wpAny_bind (wpAny_tryCatch (W.item j s _ _ (by omega) st fun v h1 tk1 pv st1 keep1 => ?_))
  have at1 := keep1 B _ nw at0
  have up : ∀ {hp : Heap} {f : Obj -> Obj},∀ b ∈ fp,∀ o,hp.get? b = some o -> (hp.update B f).get? b = some o := fun b bf o e1 => (Heap.get?_update_other _ _ (fun z : B = b => nB (z ▸ bf))).trans e1
  rcases pb with ⟨e0,rfl⟩ | ⟨i,u,hi,pu,rfl,le⟩
  ·show wpAny _ A.in1 (updateSeq B (fun _ => #[v,v]) >>= _) _ _ _
   refine wpAny_bind (wpAny_updateSeq at1 rfl ?_)
   rw [nm]
   refine wpAny_pure ⟨plainId_quiet F.plain_min_loop _,ih (j + 1) _ #[v,v] _ (by omega) (W.frame _ _ _ st1 up) (Heap.get?_update_self _ at1 rfl) (.inr ⟨j,v,by omega,pv,rfl,fun k hk => ?_⟩) fun r h' tk t keep2 => ?_⟩
   ·have : k = j := by omega
    rw [this]; exact Int.le_refl _
   ·exact k0 r h' tk t fun b o b1 b2 e1 => keep2 b o b1 b2 ((Heap.get?_update_other _ _ (Ne.symm b2)).trans (keep1 b o b1 e1))
  ·show wpAny _ A.in1 (tryCatch (holding [v,v] (richCompare .Lt v u >>= _)) _ >>= _) _ _ _
   refine wpAny_bind (wpAny_tryCatch (wpAny_holding (wpAny_bind (CmpOf.ints_lt val hv j i v u _ _ _ pv pu ?_))))
   refine wpAny_bind (wpAny_holding (wpAny_truthy_bool ?_)); refine wpAny_bind (wpAny_letGo (wpAny_pure ?_))
   by_cases lt : val j < val i
   ·rw [if_pos (show (fun i j => decide (val i < val j)) j i = true from decide_eq_true lt)]
    refine wpAny_bind (wpAny_updateSeq at1 rfl (wpAny_bind (wpAny_letGo ?_)))
    rw [nm]
    refine wpAny_pure ⟨plainId_quiet F.plain_min_loop _,ih (j + 1) _ #[v,v] _ (by omega) (W.frame _ _ _ st1 up) (Heap.get?_update_self _ at1 rfl) (.inr ⟨j,v,by omega,pv,rfl,fun k hk => ?_⟩) fun r h' tk t keep2 => ?_⟩
    ·by_cases ek : k = j
     ·rw [ek]; exact Int.le_refl _
     ·have := le k (by omega); omega
    ·exact k0 r h' tk t fun b o b1 b2 e1 => keep2 b o b1 b2 ((Heap.get?_update_other _ _ (Ne.symm b2)).trans (keep1 b o b1 e1))
   ·rw [if_neg (show ¬ (fun i j => decide (val i < val j)) j i = true from fun z => lt (of_decide_eq_true z))]
    refine wpAny_bind (wpAny_letGo ?_)
    rw [nm]
    refine wpAny_pure ⟨plainId_quiet F.plain_min_loop _,ih (j + 1) _ #[u,u] c (by omega) st1 at1 (.inr ⟨i,u,by omega,pu,rfl,fun k hk => ?_⟩) fun r h' tk t keep2 => ?_⟩
    ·by_cases ek : k = j
     ·rw [ek]; omega
     ·exact le k (by omega)
    ·exact k0 r h' tk t fun b o b1 b2 e1 => keep2 b o b1 b2 (keep1 b o b1 e1)
end
theorem Pt (a d : Value) : argsOk "min" ⟨[a],[("default",d)]⟩ := by unfold argsOk; kernel_rfl
section
variable {prog : Program} {w : World} {A : Around} {E : Value -> Shared -> Prop} {s : Shared}
theorem Pu {l : Addr} {its : Array Value} {ns : List Int} {d : Value} {Q : Value -> Shared -> Prop} (hh : A.handled = none) (hl : s.heap.IsList l its) (hi : IntsAre its.toList ns)
  (h : ∀ r h' tk,KJ (fun i v => its[i]? = some v) (fun i => ns.getD i 0) its.size d r -> (∀ b o,s.heap.get? b = some o -> h'.get? b = some o) -> Q r { s with heap := h',toks := tk }) :
  wpAny (model prog w) A (call (.builtin "min") [.ref l] [("default",d)]) Q E s := by
 have lt : l < s.heap.objs.size := by obtain ⟨_,e,_⟩ := hl; exact Heap.lt_size e
 have nm : (toString "min" ++ toString ".loop" : String) = "min.loop" := by decide
 refine wpAny_call (codeAny_call_builtin F.plain_min F.entry_min ?_)
 simp only [checkBuiltinCall,F.kind_min]
 have fin : wpAny (model prog w) A.in1 (Builtin.«min» ⟨[.ref l],[("default",d)]⟩) (fun fin s' => match fin with
   | .done f => (match (Except.ok f : Result) with | .ok (.ret v) => Q v s' | .ok _ => False | .error e => E e s')
   | .again c' => c'.quiet = true /\ codeAny (model prog w) A c' (fun r s' => match r with | .ok (.ret v) => Q v s' | .ok _ => False | .error e => E e s') s') E s := by
  show wpAny _ A.in1 (Builtin.Builtins.bindParams "min" ["key","default"] 0 ⟨[],[("default",d)]⟩ >>= _) _ _ s
  refine wpAny_bind (wpAny_of_eq (show Builtin.Builtins.bindParams "min" ["key","default"] 0 ⟨[],[("default",d)]⟩ = pure [none,some d] from rfl) ?_)
  refine wpAny_bind (wpAny_pure (wpAny_bind (wpAny_pyIter_list hl ?_)))
  refine wpAny_bind (wpAny_newObj_type ?_)
  rw [nm]
  have z1 : (s.heap.push { cls := .type "list_iterator",data := .fields #[.ref l,.int 0 0] }).objs.size = s.heap.objs.size + 1 := Heap.size_push ..
  refine wpAny_pure ⟨plainId_quiet F.plain_min_loop _,Ps (Walks.list (A := A.in1) hh s.heap.objs.size l (Nat.ne_of_lt lt) its) (fun i => ns.getD i 0) (fun i v e => IntsAre.int_at hi i v (by rw [Array.getElem?_toList]; exact e)) d _ (fun z => ?_) its.size 0 _ #[] _ (by omega) ?_ (Heap.get?_push_size _ rfl) (.inl ⟨rfl,rfl⟩) fun r h' tk t keep => ?_⟩
  ·rw [z1] at z
   simp only [List.mem_cons,List.not_mem_nil,or_false] at z
   rcases z with z | z
   ·exact absurd (show (s.heap.objs.size + 1 : Nat) = s.heap.objs.size from z) (Nat.succ_ne_self _)
   ·exact absurd (show (s.heap.objs.size + 1 : Nat) = l from z) (Nat.ne_of_gt (Nat.lt_succ_of_lt lt))
  ·exact ⟨⟨_,Heap.get?_push_of_some _ (Heap.get?_push_size _ rfl),rfl,rfl⟩,(hl.push _).push _⟩
  ·refine h r h' tk t fun b o e => keep b o (fun z => ?_) ?_ (Heap.get?_push_of_some _ (Heap.get?_push_of_some _ e))
   ·have := Heap.lt_size e
    rw [List.mem_singleton.mp z] at this
    exact Nat.lt_irrefl _ this
   ·rw [z1]; exact Nat.ne_of_lt (Nat.lt_succ_of_lt (Heap.lt_size e))
 cases sg : Manifest.signature? "min" with
 | none => exact wpAny_pure fin
 | some sig =>
  have a := Pt (.ref l) d
  simp only [argsOk,sg] at a
  show wpAny _ A.in1 (Bind.checkArgs "min" sig ⟨[.ref l],[("default",d)]⟩) _ _ s
  rw [show Bind.checkArgs "min" sig ⟨[.ref l],[("default",d)]⟩ = pure () from a]; exact wpAny_pure fin
end
def Pw (t tk : TA) : TE := fun σ H Q => t σ H fun vs H1 => tk σ H1 fun zs H2 => ∃ (p : Addr) (ns : List Int) (d : Int),vs = [.ref p] /\ H2 p = some (.lst (ns.map V.int)) /\ zs = [.int d] /\ (ns = [] -> Q (.int d) H2) /\ ∀ M,M ∈ ns -> (∀ a ∈ ns,M <= a) -> Q (.int M) H2
theorem Px {X : Cx} {e : Expr} {kws : List Keyword} {t tk : TA} {p pos : Pos} (hc : X.calm = true) (hg : Gl X "min") (hm : X.mg "min" = none) (ha : PA X [e] t) (hkw : PK X kws tk)
  (he : backTo pos (starEach [e] X.env) = (false,eval e X.env) :: backTo pos (starEach [] X.env) := by rfl) (hpl : (backTo pos (starEach [e] X.env)).any (·.1) = false := by rfl)
  (hall : (backToKw pos (keywordEach kws X.env)).all (·.1.isSome) = true := by rfl) (hk1 : (backToKw pos (keywordEach kws X.env)).any (·.1.isNone) = false := by rfl) (hks : (backToKw pos (keywordEach kws X.env)).filterMap (·.1) = [("default" : Str)] := by rfl) :
  PE X (.Call (.Name "min" p) [e] kws pos) (Pw t tk) := by
 intro pins s σ H Q I h
 refine wpAny_Call_Name_kw (Cf I hg hm (u := .builtin "min") rfl ?_ (by decide) (by decide))
 refine PyProof.Rows.callWith_kw (Ao (ha pos pins s σ H _ I h) fun us s1 ⟨vs,H1,I1,r,q⟩ => Ao (hkw pos pins s1 σ H1 _ I1 q) fun ws s2 ⟨zs,H2,I2,rz,q2⟩ => ?_) he hpl hall hk1
 obtain ⟨l,ns,d,rfl,hp,rfl,q0,q1⟩ := q2
 obtain ⟨u,rfl,ru⟩ := r.one
 cases ru
 obtain ⟨v,rfl,tv,rfl⟩ := EB rz
 rw [hks]
 obtain ⟨its,rv,pl,hz⟩ := I2.list (An.of hp)
 have hi : IntsAre its ns := Mq rv
 refine Pu (I2.ok.hd hc) pl.isList (by simpa using hi) fun x h' tk' told keep => ?_
 have ln := IntsAre.length hi
 rcases told with ⟨e0,rfl⟩ | ⟨i,hi0,e1,le⟩
 ·refine ⟨.int d,H2,I2.kept keep,⟨tv,rfl⟩,q0 ?_⟩
  rw [List.size_toArray] at e0
  exact List.eq_nil_of_length_eq_zero (by omega)
 ·rw [List.size_toArray] at hi0 le
  obtain ⟨tx,rfl⟩ := IntsAre.int_at hi i x (by rw [<- List.getElem?_toArray]; exact e1)
  refine ⟨.int (ns.getD i 0),H2,I2.kept keep,⟨tx,rfl⟩,q1 _ (getD_mem (by omega)) fun a ma => ?_⟩
  obtain ⟨j,hj,rfl⟩ := mem_getD ma
  exact le j (by omega)
theorem Py {X : Cx} (hc : X.calm = true) : Bx X (.builtin "min") (fun xs H Q => ∃ i j k,xs = [.int i,.int j,.int k] /\ ∀ m,(m = i \/ m = j \/ m = k) -> m <= i -> m <= j -> m <= k -> Q (.int m) H) := by
 intro pins s σ H xs us Q I r h
 obtain ⟨i,j,k,rfl,q⟩ := h
 cases r with
 | cons r1 r =>
 obtain ⟨u2,u3,rfl,⟨t2,rfl⟩,⟨t3,rfl⟩⟩ := Fo r
 obtain ⟨t1,rfl⟩ := r1
 refine min_three_ints (I.ok.hd hc) fun h' tk keep => ?_
 by_cases c1 : j < i
 ·rw [if_pos c1]
  by_cases c2 : k < j
  ·rw [if_pos c2]; exact ⟨.int k,H,I.kept keep,⟨t3,rfl⟩,q k (.inr (.inr rfl)) (by omega) (by omega) (by omega)⟩
  ·rw [if_neg c2]; exact ⟨.int j,H,I.kept keep,⟨t2,rfl⟩,q j (.inr (.inl rfl)) (by omega) (by omega) (by omega)⟩
 ·rw [if_neg c1]
  by_cases c2 : k < i
  ·rw [if_pos c2]; exact ⟨.int k,H,I.kept keep,⟨t3,rfl⟩,q k (.inr (.inr rfl)) (by omega) (by omega) (by omega)⟩
  ·rw [if_neg c2]; exact ⟨.int i,H,I.kept keep,⟨t1,rfl⟩,q i (.inl rfl) (by omega) (by omega) (by omega)⟩
def Pz : V -> V -> Hp -> VK -> Prop := fun o i H Q => ∃ (p : Addr) (xs : List V) (k : Nat) (z : V),o = .ref p /\ i = .int (k : Int) /\ H p = some (.lst xs) /\ xs[k]? = some z /\ Q z H
theorem KK {X : Cx} : IC X Pz := by
 intro pins s σ H o i ov iv Q I ro ri h
 obtain ⟨p,xs,k,z,rfl,rfl,hq,he,q⟩ := h
 cases ro
 obtain ⟨t,rfl⟩ := ri
 obtain ⟨its,r,pl,hz⟩ := I.list (An.of hq)
 obtain ⟨u,eu,ru⟩ := r.get he
 have hn := EA
 have lt : k < xs.length := (List.getElem?_eq_some_iff.mp he).1
 have hl := r.length
 exact wpAny_getItem_list pl.isList (Int.natCast_nonneg k) (by omega) (by rw [Int.toNat_natCast]; simpa using eu) ⟨z,H,I,ru,q⟩
end L2
end
section
namespace MF
open PySem PySem.Spec PyProof.Rows L2
structure FunC (K : PySem.W.Frag) (x qual : Str) (st : Stmt) (f : Addr) (fd : FuncData) (c : Addr) : Prop where
 ex : ∃ (oc : Value) (od : Option Addr) (kV doc pm : Value) (an : Option Addr) (ct : Value) (osl : Array (Option Value)),
  fd = PySem.W.fnOf x qual (BZ st) (BI st) (Ar st) .none kV doc pm an (.ref c) ct /\ K.lookup f = some ⟨oc,od,.func fd,osl⟩ /\ PySem.W.codeIn K (.ref c) qual = true
theorem PC {xs : List V} {i : Nat} : A7 xs none (some (i : Int)) = xs.take i := by
 unfold A7
 rw [HT.sIx_nat]
 show (xs.drop 0).take (min i xs.length - 0) = _
 rw [List.drop_zero,Nat.sub_zero]
 by_cases h : i <= xs.length
 ·rw [Nat.min_eq_left h]
 ·rw [Nat.min_eq_right (by omega),List.take_of_length_le (Nat.le_refl _),List.take_of_length_le (by omega)]
theorem PD {xs : List V} {lo hi : Option Int} {v : V} (h : v ∈ A7 xs lo hi) : v ∈ xs := by unfold A7 at h; exact List.mem_of_mem_drop (List.mem_of_mem_take h)
theorem PF {n : Nat} (h : n <= 1000) : n <= sizeLine := Nat.le_of_lt (MS h)
end MF
end
section
namespace MF
open PySem PySem.Spec PyProof.Rows L2
variable {k j : Nat} {T U : TM} {u c' : Int} {qs qs' : List Int}
theorem KM {l : List Int} {x : Int} (h : k < l.length) (i : Nat) : (l.set k x).getD i 0 = if i = k then x else l.getD i 0 := by
 rw [List.getD_eq_getElem?_getD,List.getElem?_set]
 by_cases c : k = i
 ·subst c; rw [if_pos rfl,if_pos h,if_pos rfl]; rfl
 ·rw [if_neg c,if_neg (fun z => c z.symm),List.getD_eq_getElem?_getD]
theorem KN {ns : List Int} (hk : k < T.ds.length) : ∀ n,BD { T with ds := T.ds.set k (T.ds.getD k 0 + u) } ns n = BD T ns n + (if k < n then ns.getD k 0 * u else 0)
 | 0 => by rw [if_neg (Nat.not_lt_zero _)]; rfl
 | n + 1 => by
  rw [DN,DN,KN hk n]
  have e : AW { T with ds := T.ds.set k (T.ds.getD k 0 + u) } n (ns.getD n 0) (ns.getD (n + 1) 0) = AW T n (ns.getD n 0) (ns.getD (n + 1) 0) + (if n = k then ns.getD k 0 * u else 0) := by
   unfold AW
   dsimp only
   rw [KM hk]
   by_cases c : n = k
   ·subst c; rw [if_pos rfl,if_pos rfl,Int.mul_add]; omega
   ·rw [if_neg c,if_neg c]; omega
  rw [e]
  by_cases c : n = k
  ·subst c; rw [if_neg (Nat.lt_irrefl _),if_pos rfl,if_pos (Nat.lt_succ_self _)]; omega
  ·by_cases d : k < n
   ·rw [if_pos d,if_neg c,if_pos (show k < n + 1 by omega)]; omega
   ·rw [if_neg d,if_neg c,if_neg (show ¬ k < n + 1 by omega)]; omega
theorem PH {ns : List Int} (hk : k < T.ds.length) (hl : ns.length = T.ds.length) : A5 { T with ds := T.ds.set k (T.ds.getD k 0 + u) } ns = A5 T ns + ns.getD k 0 * u := by
 unfold A5
 rw [KN hk,if_pos (by omega)]
 show _ - ns.getD 0 0 * T.st = _
 omega
theorem Ib {T U : TM} {ns : List Int} (h : ∀ k,k < ns.length -> AW U k (ns.getD k 0) (ns.getD (k + 1) 0) <= AW T k (ns.getD k 0) (ns.getD (k + 1) 0)) : ∀ n,n <= ns.length -> BD U ns n <= BD T ns n
 | 0,_ => Int.le_refl _
 | n + 1,hn => by
  rw [DN,DN]
  have := Ib h n (by omega)
  have := h n (by omega)
  omega
theorem PJ {lo hi p b : Int} : B4 (lo - 1) hi p b <= B4 lo hi p b := by
 unfold B4
 by_cases c : b < p
 ·rw [if_pos c,if_pos c,Int.mul_sub,Int.mul_one]; omega
 ·rw [if_neg c,if_neg c]; exact Int.le_refl _
theorem PN {lo hi p b : Int} : B4 lo (hi + 1) p b <= B4 lo hi p b := by
 unfold B4
 by_cases c : b < p
 ·rw [if_pos c,if_pos c]; exact Int.le_refl _
 ·rw [if_neg c,if_neg c,Int.mul_add,Int.mul_one]; omega
theorem KO : ∀ {r co : List Int} {p : Int} {j : Nat},j < r.length -> r.length = co.length -> spared (r.set j (r.getD j 0 + 1)) co p = spared r co p + (if co.getD j 0 < p then co.getD j 0 - p else 0)
 | [],_,p,j,h,_ => absurd h (Nat.not_lt_zero _)
 | a :: r,[],p,j,_,h => by simp at h
 | a :: r,c :: co,p,0,_,_ => by
  show Bv p (a + 1,c) + ((r.zip co).map (Bv p)).sum = Bv p (a,c) + ((r.zip co).map (Bv p)).sum + (if c < p then c - p else 0)
  unfold Bv
  dsimp only
  by_cases z : c < p
  ·rw [if_pos z,if_pos z,if_pos z,Int.add_mul,Int.one_mul]; omega
  ·rw [if_neg z,if_neg z,if_neg z]; omega
 | a :: r,c :: co,p,j + 1,h,hl => by
  have ih := KO (r := r) (co := co) (p := p) (j := j) (Nat.lt_of_succ_lt_succ h) (by simpa using hl)
  unfold spared at ih
  show Bv p (a,c) + (((r.set j (r.getD j 0 + 1)).zip co).map (Bv p)).sum = Bv p (a,c) + ((r.zip co).map (Bv p)).sum + (if co.getD j 0 < p then co.getD j 0 - p else 0)
  rw [ih]; omega
theorem KP {l : List (List Int)} {x : List Int} (h : k < l.length) (i : Nat) : (l.set k x).getD i [] = if i = k then x else l.getD i [] := by
 rw [List.getD_eq_getElem?_getD,List.getElem?_set]
 by_cases c : k = i
 ·subst c; rw [if_pos rfl,if_pos h,if_pos rfl]; rfl
 ·rw [if_neg c,if_neg (fun z => c z.symm),List.getD_eq_getElem?_getD]
theorem KQ {ns : List Int} (hk : k < T.cs.length) (hj : j < (T.cs.getD k []).length) (hl : (T.cs.getD k []).length = T.co.length) : ∀ n,BD { T with cs := T.cs.set k ((T.cs.getD k []).set j ((T.cs.getD k []).getD j 0 + 1)) } ns n = BD T ns n + (if k < n then (if T.co.getD j 0 < ns.getD k 0 then T.co.getD j 0 - ns.getD k 0 else 0) else 0)
 | 0 => by rw [if_neg (Nat.not_lt_zero _)]; rfl
 | n + 1 => by
  rw [DN,DN,KQ hk hj hl n]
  have e : AW { T with cs := T.cs.set k ((T.cs.getD k []).set j ((T.cs.getD k []).getD j 0 + 1)) } n (ns.getD n 0) (ns.getD (n + 1) 0) = AW T n (ns.getD n 0) (ns.getD (n + 1) 0) + (if n = k then (if T.co.getD j 0 < ns.getD k 0 then T.co.getD j 0 - ns.getD k 0 else 0) else 0) := by
   unfold AW
   dsimp only
   rw [KP hk]
   by_cases c : n = k
   ·subst c; rw [if_pos rfl,if_pos rfl,KO hj hl]; omega
   ·rw [if_neg c,if_neg c]; omega
  rw [e]
  by_cases c : n = k
  ·subst c; rw [if_neg (Nat.lt_irrefl _),if_pos rfl,if_pos (Nat.lt_succ_self _)]; omega
  ·by_cases d : k < n
   ·rw [if_pos d,if_neg c,if_pos (show k < n + 1 by omega)]; omega
   ·rw [if_neg d,if_neg c,if_neg (show ¬ k < n + 1 by omega)]; omega
theorem KR {ns : List Int} (hk : k < T.cs.length) (hj : j < (T.cs.getD k []).length) (hl : (T.cs.getD k []).length = T.co.length) (hn : k < ns.length) : A5 { T with cs := T.cs.set k ((T.cs.getD k []).set j ((T.cs.getD k []).getD j 0 + 1)) } ns = A5 T ns + (if T.co.getD j 0 < ns.getD k 0 then T.co.getD j 0 - ns.getD k 0 else 0) := by
 unfold A5
 rw [KQ hk hj hl,if_pos hn]
 show _ - ns.getD 0 0 * T.st = _
 omega
theorem F7 {c : Int} (h : A4 T c qs) (h' : A4 U c' qs') (ec : U.co = T.co) (ed : U.ds.length = T.ds.length) (le : ∀ ns : List Int,ns.length = T.ds.length -> (∀ x ∈ ns,x ∈ 0 :: T.co) -> A5 U ns <= A5 T ns) : c' <= c := by
 have as : ∀ x ∈ qs',x ∈ 0 :: T.co := fun x hx => by have := h'.as x hx; rw [ec] at this; exact this
 have l : qs'.length = T.ds.length := by rw [h'.len,ed]
 have a := le qs' l as
 have b := h.top qs' l as
 have := h'.val
 omega
theorem KS {c : Int} (h : A4 T c qs) (h' : A4 U c' qs') (ec : U.co = T.co) (ed : U.ds.length = T.ds.length) : A5 U qs <= c' := h'.top qs (by rw [h.len,ed]) fun x hx => by have := h.as x hx; rw [ec]; exact this
theorem KT {c : Int} (hk : k < T.ds.length) (h : A4 T c qs) (h' : A4 { T with ds := T.ds.set k (T.ds.getD k 0 + u) } c' qs') : c + qs.getD k 0 * u <= c' := by
 have := KS h h' rfl (by show (T.ds.set k _).length = _; rw [List.length_set])
 rw [PH hk h.len] at this
 have := h.val
 omega
theorem PP {c : Int} (h : A4 T c qs) (h' : A4 { T with hi := T.hi + 1 } c' qs') : c' <= c := by
 refine F7 h h' rfl rfl fun ns l _ => ?_
 unfold A5
 have := Ib (T := T) (U := { T with hi := T.hi + 1 }) (ns := ns) (fun k _ => by
  unfold AW
  have := PN (lo := T.lo) (hi := T.hi) (p := ns.getD k 0) (b := ns.getD (k + 1) 0)
  dsimp only
  omega) ns.length (Nat.le_refl _)
 dsimp only
 omega
theorem PQ {c : Int} (h : A4 T c qs) (h' : A4 { T with lo := T.lo - 1 } c' qs') : c' <= c := by
 refine F7 h h' rfl rfl fun ns l _ => ?_
 unfold A5
 have := Ib (T := T) (U := { T with lo := T.lo - 1 }) (ns := ns) (fun k _ => by
  unfold AW
  have := PJ (lo := T.lo) (hi := T.hi) (p := ns.getD k 0) (b := ns.getD (k + 1) 0)
  dsimp only
  omega) ns.length (Nat.le_refl _)
 dsimp only
 omega
theorem PR (fl : A9 T) {c c' : Int} {qs qs' : List Int} (h : A4 T c qs) (h' : A4 { T with st := T.st + 1 } c' qs') : c' <= c := by
 refine F7 h h' rfl rfl fun ns l as => ?_
 have p0 : 0 <= ns.getD 0 0 := Asked.pos fl as 0
 have e : BD { T with st := T.st + 1 } ns ns.length = BD T ns ns.length := rfl
 unfold A5
 rw [e]
 show _ - ns.getD 0 0 * (T.st + 1) <= _
 rw [Int.mul_add,Int.mul_one]
 omega
theorem PU {c : Int} (hk : k < T.cs.length) (hd : T.cs.length = T.ds.length) (hj : j < (T.cs.getD k []).length) (hl : (T.cs.getD k []).length = T.co.length) (h : A4 T c qs) (h' : A4 { T with cs := T.cs.set k ((T.cs.getD k []).set j ((T.cs.getD k []).getD j 0 + 1)) } c' qs') : c' <= c /\ (c - c' <= 0 \/ c - c' <= qs.getD k 0 - T.co.getD j 0) := by
 constructor
 ·refine F7 h h' rfl rfl fun ns l _ => ?_
  rw [KR hk hj hl (by omega)]
  split <;> omega
 ·have := KS h h' rfl rfl
  rw [KR hk hj hl (by rw [h.len]; omega)] at this
  have v := h.val
  split at this
  ·exact .inr (by omega)
  ·exact .inl (by omega)
end MF
end
section
namespace MF
open PySem PySem.Spec PyProof.Rows L2
def top (i : Nat) : Stmt := PySem.Challenge.pw_mainfires_k54_whole_prices_and_units.main.body.getD i (.Pass ⟨0, 0, 0, 0⟩)
abbrev s_is_whole : Stmt := top 10
abbrev s_is_whole_from : Stmt := top 11
abbrev s_is_tuple_of : Stmt := top 12
abbrev s_is_counts : Stmt := top 13
abbrev s_replaced : Stmt := top 14
abbrev s_is_plant : Stmt := top 23
abbrev s_are_boilers : Stmt := top 24
abbrev s_is_make_and_coal : Stmt := top 25
abbrev s_are_engines : Stmt := top 26
abbrev s_is_engine : Stmt := top 27
abbrev s_is_main : Stmt := top 28
abbrev s_need_plant : Stmt := top 29
abbrev s_is_story : Stmt := top 30
abbrev s_is_fault : Stmt := top 31
abbrev s_need_story : Stmt := top 32
abbrev s_caps_of : Stmt := top 33
abbrev s_caps_in : Stmt := top 34
abbrev s_words_for : Stmt := top 35
abbrev s_cap_under : Stmt := top 36
abbrev s_draws_of : Stmt := top 37
abbrev s_drawn_by : Stmt := top 38
abbrev s_need_hour : Stmt := top 39
abbrev s_need_boiler : Stmt := top 40
abbrev s_terms_of : Stmt := top 41
abbrev s_is_firing : Stmt := top 42
abbrev s_is_firing_within : Stmt := top 43
abbrev s_is_row : Stmt := top 44
abbrev s_need_firing : Stmt := top 45
abbrev s_run_day : Stmt := top 47
abbrev s_falls_at : Stmt := top 48
abbrev s_keeps_up : Stmt := top 49
abbrev s_need_keeping : Stmt := top 50
abbrev s_coal_of : Stmt := top 51
abbrev s_steam_by : Stmt := top 52
abbrev s_is_too_much : Stmt := top 54
abbrev s_least_stretch : Stmt := top 55
abbrev s_floor_of : Stmt := top 57
abbrev s_floor_at : Stmt := top 58
abbrev s_highest_floor : Stmt := top 59
abbrev s_tails_from : Stmt := top 60
abbrev s_coal_under : Stmt := top 61
abbrev s_least_firing : Stmt := top 62
abbrev s_make_cheapest : Stmt := top 63
abbrev s_room_between : Stmt := top 64
abbrev s_cheapest : Stmt := top 65
abbrev s_prices_hold : Stmt := top 66
abbrev s_least_coal : Stmt := top 67
abbrev s_coal_or_refuse : Stmt := top 69
abbrev s_added : Stmt := top 70
abbrev s_more_drawn : Stmt := top 71
abbrev s_less_drawn : Stmt := top 72
abbrev s_wider : Stmt := top 73
abbrev s_lower : Stmt := top 74
abbrev s_fuller : Stmt := top 75
abbrev s_better : Stmt := top 76
abbrev s__law_cell : Stmt := top 78
abbrev s__law_pen : Stmt := top 79
abbrev s__law_draw : Stmt := top 80
abbrev s__law_plant : Stmt := top 81
abbrev s__law_story : Stmt := top 82
abbrev s__law_caps : Stmt := top 83
abbrev s__law_draws : Stmt := top 84
abbrev s__law_mains : Stmt := top 85
abbrev s__law_keeps : Stmt := top 86
abbrev s__law_pair : Stmt := top 87
abbrev s__law_hour_right : Stmt := top 88
abbrev s_law : Stmt := top 89
structure Tx (mg : Str -> Option Value) : Prop where
 b_all : mg "all" = none
 b_bool : mg "bool" = none
 b_divmod : mg "divmod" = none
 b_enumerate : mg "enumerate" = none
 b_int : mg "int" = none
 b_isinstance : mg "isinstance" = none
 b_len : mg "len" = none
 b_list : mg "list" = none
 b_max : mg "max" = none
 b_min : mg "min" = none
 b_range : mg "range" = none
 b_reversed : mg "reversed" = none
 b_sum : mg "sum" = none
 b_tuple : mg "tuple" = none
 b_zip : mg "zip" = none
 g_MOST_BOILERS : ∃ t,mg "MOST_BOILERS" = some (.int 4 t)
 g_MOST_ENGINES : ∃ t,mg "MOST_ENGINES" = some (.int 4 t)
 g_MOST_FAULTS : ∃ t,mg "MOST_FAULTS" = some (.int 4 t)
 g_MOST_HOURS : ∃ t,mg "MOST_HOURS" = some (.int 8 t)
 g_MOST_UNITS : ∃ t,mg "MOST_UNITS" = some (.int 9 t)
 g_MOST_EXTRA : ∃ t,mg "MOST_EXTRA" = some (.int 20 t)
 g_MOST_IN_MAIN : ∃ t,mg "MOST_IN_MAIN" = some (.int 40 t)
def PV : PyData -> Bool | .int _ => true | _ => false
def BW (d : PyData) (lo hi : Int) : Bool := match d with | .int i => decide (lo <= i) && decide (i <= hi) | _ => false
def A2 (d : PyData) (lo hi : Int) : Bool := match d with | .tuple ds => decide (lo <= (ds.length : Int)) && decide ((ds.length : Int) <= hi) | _ => false
def EX : Sp := fun vs H Q _ => match vs with | [v] => ∃ p d,Aa p H d v /\ ∀ b,b = PV d -> Q (.bl b) H | _ => False
def Ic : Sp := fun vs H Q _ => match vs with | [v,.int lo,.int hi] => ∃ p d,Aa p H d v /\ ∀ b,b = BW d lo hi -> Q (.bl b) H | _ => False
def Id : Sp := fun vs H Q _ => match vs with | [v,.int lo,.int hi] => ∃ p d,Aa p H d v /\ ∀ b,b = A2 d lo hi -> Q (.bl b) H | _ => False
section
variable {P : Program} {w : World} {K : PySem.W.Frag} {mg : Str -> Option Value} {base : Heap}
theorem PX : Av ["thing"] ["thing"] (Ar s_is_whole) := Ax
theorem PY (F : Df K mg "is_whole" s_is_whole ["thing"]) (T : Tx mg)  : Fn P w K mg base 1 "is_whole" ["thing"] EX := by
 refine F.fn PX (fun vs H Q E h => ?_) (fun f cdv A outer s H vs Q E hr h => ?_)
 ·unfold EX at h; split at h; rfl; exact h.elim
 refine ⟨_,(Am (As (Bf (AF Hx rfl T.b_isinstance boot_isinstance (Ap (cy 0) (G4 (v := .ty "int") rfl T.b_int L2.boot_int rfl))) (BF (Nr (AF Hx rfl T.b_isinstance boot_isinstance (Ap (cy 0) (G4 (v := .ty "bool") rfl T.b_bool L2.boot_bool rfl)))))))),?_⟩
 unfold EX at h
 split at h
 ·rename_i v
  obtain ⟨p,d,r,q⟩ := h
  refine ⟨_,r.ty,.inl rfl,⟨fun c => ⟨_,r.ty,.inr (.inl rfl),?_⟩,fun c => ?_⟩⟩
  ·exact q _ (by cases d <;> first | rfl | cases c)
  ·exact q _ (by cases d <;> first | rfl | cases c)
 ·exact h.elim
theorem PZ : Av ["thing","least","most"] ["thing","least","most"] (Ar s_is_whole_from) := Ax
abbrev C9 (P : Program) (w : World) (K : PySem.W.Frag) (mg : Str -> Option Value) (base : Heap) : Prop := Fn P w K mg base 2 "is_whole_from" ["thing","least","most"] Ic
theorem P0 (F : Df K mg "is_whole_from" s_is_whole_from ["thing","least","most"]) (T : Tx mg) (D_is_whole : Fn P w K mg base 1 "is_whole" ["thing"] EX) : C9 P w K mg base := by
 refine F.fn PZ (fun vs H Q E h => ?_) (fun f cdv A outer s H vs Q E hr h => ?_)
 ·unfold Ic at h; split at h; rfl; exact h.elim
 refine ⟨_,(Am (As (Bf (Ai D_is_whole (hr.mono (by decide)) rfl (Al (cy 0))) (BF (JA Dl Dl (cy 1) (cy 0) (cy 2)))))),?_⟩
 unfold Ic at h
 split at h
 ·rename_i v lo hi
  obtain ⟨p,d,r,q⟩ := h
  refine ⟨p,d,r,fun b hb => ⟨fun c => ?_,fun c => ?_⟩⟩
  ·subst c
   cases d <;> first | cases hb | skip
   rename_i i
   unfold Aa at r
   subst r
   refine ⟨fun c => ?_,fun c => ?_⟩
   ·exact q _ (by unfold BW; dsimp only; rw [c]; rfl)
   ·exact q _ (by unfold BW; dsimp only; rw [c]; rfl)
  ·subst c
   exact q _ (by cases d <;> first | rfl | cases hb)
 ·exact h.elim
theorem P1 : Av ["thing","fewest","most"] ["thing","fewest","most"] (Ar s_is_tuple_of) := Ax
abbrev Cp (P : Program) (w : World) (K : PySem.W.Frag) (mg : Str -> Option Value) (base : Heap) : Prop := Fn P w K mg base 1 "is_tuple_of" ["thing","fewest","most"] Id
theorem P2 (F : Df K mg "is_tuple_of" s_is_tuple_of ["thing","fewest","most"]) (T : Tx mg)  : Cp P w K mg base := by
 refine F.fn P1 (fun vs H Q E h => ?_) (fun f cdv A outer s H vs Q E hr h => ?_)
 ·unfold Id at h; split at h; rfl; exact h.elim
 refine ⟨_,(Am (As (Bf (AF Hx rfl T.b_isinstance boot_isinstance (Ap (cy 0) (G4 (v := .ty "tuple") rfl T.b_tuple BP rfl))) (BF (JA Dl Dl (cy 1) (AF (Bb K) rfl T.b_len PySem.boot_len (Al (cy 0))) (cy 2)))))),?_⟩
 unfold Id at h
 split at h
 ·rename_i v lo hi
  obtain ⟨p,d,r,q⟩ := h
  refine ⟨_,r.ty,.inr (.inr (.inl rfl)),⟨fun c => ?_,fun c => ?_⟩⟩
  ·cases d <;> first | cases c | skip
   rename_i ds
   unfold Aa at r
   obtain ⟨a,xs,rfl,ha,rs⟩ := r
   refine ⟨a,xs,rfl,.inr (Ac.of ha),?_⟩
   rw [<- rs.len]
   refine ⟨fun c => ?_,fun c => ?_⟩
   ·exact q _ (by unfold A2; dsimp only; rw [c]; rfl)
   ·exact q _ (by unfold A2; dsimp only; rw [c]; rfl)
  ·exact q _ (by cases d <;> first | rfl | cases c)
 ·exact h.elim
end
end MF
end
section
namespace MF
open PySem PySem.Spec PyProof.Rows L2
variable {p : Addr} {H : Hp} {xs : List V}
theorem KU {α β : Type} {ds : List α} {i : Nat} {d : α} (f : α -> β) (h : ds[i]? = some d) : (ds.take (i + 1)).map f = (ds.take i).map f ++ [f d] := by
 rw [List.take_add_one,h,List.map_append]; rfl
def DR (d : PyData) : Bool := match d with | .tuple [a,b] => BW a 1 9 && BW b 1 9 | _ => false
def Dw (d : PyData) : Bool := match d with | .tuple [a,b,c] => BW a 1 9 && BW b 0 7 && BW c 1 8 | _ => false
def DS (d : PyData) : Bool := match d with
 | .tuple [a,b,c] => BW b 0 40 && match b with | .int hi => BW c 0 hi && (match c with | .int st => BW a 0 st | _ => false) | _ => false
 | _ => false
def Eh (d : PyData) : Bool := match d with | .tuple ds => A2 d 1 4 && ds.all DR | _ => false
def Ei (d : PyData) : Bool := match d with | .tuple ds => A2 d 0 4 && ds.all Dw | _ => false
def Ej (d : PyData) : Bool := match d with | .tuple [a,b,c] => Eh a && Ei b && DS c | _ => false
def B5 (f : PyData -> Bool) : Sp := fun vs H Q _ => match vs with | [v] => ∃ p d,Aa p H d v /\ ∀ b H',b = f d -> Ab H H' -> Q (.bl b) H' | _ => False
theorem Ek {f : PyData -> Bool} {vs H Q E} (h : B5 f vs H Q E) : vs.length = 1 := by unfold B5 at h; split at h; rfl; exact h.elim
abbrev F8 : Sp := B5 DR
abbrev F9 : Sp := B5 Dw
abbrev Ga : Sp := B5 DS
abbrev Gb : Sp := B5 Eh
abbrev Gc : Sp := B5 Ei
abbrev Gd : Sp := B5 Ej
theorem P3 {vs H Q E} (h : F8 vs H Q E) : vs.length = 1 := Ek h
theorem P4 {vs H Q E} (h : F9 vs H Q E) : vs.length = 1 := Ek h
theorem P5 {vs H Q E} (h : Ga vs H Q E) : vs.length = 1 := Ek h
theorem P6 {vs H Q E} (h : Gb vs H Q E) : vs.length = 1 := Ek h
theorem P7 {vs H Q E} (h : Gc vs H Q E) : vs.length = 1 := Ek h
theorem P8 {vs H Q E} (h : Gd vs H Q E) : vs.length = 1 := Ek h
theorem two {ds : List PyData} (h : A2 (.tuple ds) 2 2 = true) : ∃ a b,ds = [a,b] := by
 unfold A2 at h; simp only [Bool.and_eq_true,decide_eq_true_eq] at h
 match ds,h with
 | [a,b],_ => exact ⟨a,b,rfl⟩
 | [],h => simp at h
 | [_],h => simp at h
 | _ :: _ :: _ :: _,h => simp at h; omega
theorem three {ds : List PyData} (h : A2 (.tuple ds) 3 3 = true) : ∃ a b c,ds = [a,b,c] := by
 unfold A2 at h; simp only [Bool.and_eq_true,decide_eq_true_eq] at h
 match ds,h with
 | [a,b,c],_ => exact ⟨a,b,c,rfl⟩
 | [],h => simp at h
 | [_],h => simp at h
 | [_,_],h => simp at h
 | _ :: _ :: _ :: _ :: _,h => simp at h; omega
theorem El {d : PyData} {lo hi : Int} (h : A2 d lo hi = true) : ∃ ds,d = .tuple ds := by
 cases d <;> first | exact ⟨_,rfl⟩ | cases h
theorem Aa.shape {ds : List PyData} {v : V} (r : Aa p H (.tuple ds) v) : ∃ a xs,v = .ref a /\ H a = some (.tup xs) /\ Ad p H ds xs := by unfold Aa at r; exact r
theorem Ad.two {a b : PyData} (r : Ad p H [a,b] xs) : ∃ x y,xs = [x,y] /\ Aa p H a x /\ Aa p H b y := by
 unfold Ad at r; obtain ⟨x,s,rfl,hx,r⟩ := r; unfold Ad at r; obtain ⟨y,s,rfl,hy,r⟩ := r; unfold Ad at r; subst r; exact ⟨x,y,rfl,hx,hy⟩
theorem Ad.three {a b c : PyData} (r : Ad p H [a,b,c] xs) : ∃ x y z,xs = [x,y,z] /\ Aa p H a x /\ Aa p H b y /\ Aa p H c z := by
 unfold Ad at r; obtain ⟨x,s,rfl,hx,r⟩ := r; obtain ⟨y,z,rfl,hy,hz⟩ := Ad.two r; exact ⟨x,y,z,rfl,hx,hy,hz⟩
section
variable {P : Program} {w : World} {K : PySem.W.Frag} {mg : Str -> Option Value} {base : Heap}
theorem sc_is_make_and_coal : Av ["thing","make","coal"] ["thing"] (Ar s_is_make_and_coal) := Ax
theorem P9 (F : Df K mg "is_make_and_coal" s_is_make_and_coal ["thing"]) (T : Tx mg) (D_is_tuple_of : Cp P w K mg base) (D_is_whole_from : C9 P w K mg base) : Fn P w K mg base 3 "is_make_and_coal" ["thing"] F8 := by
 obtain ⟨t_MOST_UNITS,g_MOST_UNITS⟩ := T.g_MOST_UNITS
 refine F.fn sc_is_make_and_coal (fun vs H Q E h => ?_) (fun f cdv A outer s H vs Q E hr h => ?_)
 ·exact P3 h
 refine ⟨_,(Aj (AU (BM (BA (Ai D_is_tuple_of (hr.mono (by decide)) rfl (AD (cy 0) Ah Ah)))) (Am (As BY)) AT) (Aj (AR (cy 0) (AC K (n := 2) (Ag (Af 1 sc_is_make_and_coal.nd) (Ag (Af 2 sc_is_make_and_coal.nd) AB)))) (Am (As (Bf (Ai D_is_whole_from (hr.mono (by decide)) rfl (AD (cy 1) Ah (Cs (v := .int 9) rfl g_MOST_UNITS ⟨t_MOST_UNITS,rfl⟩))) (BF (Ai D_is_whole_from (hr.mono (by decide)) rfl (AD (cy 2) Ah (Cs (v := .int 9) rfl g_MOST_UNITS ⟨t_MOST_UNITS,rfl⟩))))))))),?_⟩
 unfold F8 B5 at h
 split at h
 ·rename_i v
  obtain ⟨p,d,r,q⟩ := h
  refine ⟨p,d,r,fun b hb => ⟨fun c => ?_,fun c => ?_⟩⟩
  ·refine q false H ?_ (Ab.refl _)
   have e : A2 d 2 2 = false := by rw [<- hb]; simpa using c
   cases d <;> first | rfl | skip
   rename_i ds
   match ds,e with
   | [a,b],e => cases e
   | [],_ => rfl
   | [_],_ => rfl
   | _ :: _ :: _ :: _,_ => rfl
  ·have e : A2 d 2 2 = true := by rw [<- hb]; simpa using c
   obtain ⟨ds,rfl⟩ := El e
   obtain ⟨a,b,rfl⟩ := two e
   obtain ⟨l,xs,rfl,hl,rs⟩ := Aa.shape r
   obtain ⟨x,y,rfl,rx,ry⟩ := Ad.two rs
   refine ⟨l,[x,y],rfl,Ac.of hl,rfl,x,[y],rfl,y,[],rfl,rfl,p,a,rx,fun b1 e1 => ⟨fun c => ⟨p,b,ry,fun b2 e2 => ?_⟩,fun c => ?_⟩⟩
   ·exact q _ _ (by unfold DR; dsimp only; rw [e2,<- e1,c]; rfl) (Ab.refl _)
   ·exact q _ _ (by unfold DR; dsimp only; rw [<- e1,c]; rfl) (Ab.refl _)
 ·exact h.elim
theorem sc_is_engine : Av ["thing","draw","first","every"] ["thing"] (Ar s_is_engine) := Ax
theorem Qa (F : Df K mg "is_engine" s_is_engine ["thing"]) (T : Tx mg) (D_is_tuple_of : Cp P w K mg base) (D_is_whole_from : C9 P w K mg base) : Fn P w K mg base 3 "is_engine" ["thing"] F9 := by
 obtain ⟨t_MOST_HOURS,g_MOST_HOURS⟩ := T.g_MOST_HOURS
 obtain ⟨t_MOST_UNITS,g_MOST_UNITS⟩ := T.g_MOST_UNITS
 refine F.fn sc_is_engine (fun vs H Q E h => ?_) (fun f cdv A outer s H vs Q E hr h => ?_)
 ·exact P4 h
 refine ⟨_,(Aj (AU (BM (BA (Ai D_is_tuple_of (hr.mono (by decide)) rfl (AD (cy 0) Ah Ah)))) (Am (As BY)) AT) (Aj (AR (cy 0) (AC K (n := 3) (Ag (Af 1 sc_is_engine.nd) (Ag (Af 2 sc_is_engine.nd) (Ag (Af 3 sc_is_engine.nd) AB))))) (Am (As (Bf (Ai D_is_whole_from (hr.mono (by decide)) rfl (AD (cy 1) Ah (Cs (v := .int 9) rfl g_MOST_UNITS ⟨t_MOST_UNITS,rfl⟩))) (Bf (Ai D_is_whole_from (hr.mono (by decide)) rfl (AD (cy 2) Ah (Aq AY (Cs (v := .int 8) rfl g_MOST_HOURS ⟨t_MOST_HOURS,rfl⟩) Ah))) (BF (Ai D_is_whole_from (hr.mono (by decide)) rfl (AD (cy 3) Ah (Cs (v := .int 8) rfl g_MOST_HOURS ⟨t_MOST_HOURS,rfl⟩)))))))))),?_⟩
 unfold F9 B5 at h
 split at h
 ·rename_i v
  obtain ⟨p,d,r,q⟩ := h
  refine ⟨p,d,r,fun b hb => ⟨fun c => ?_,fun c => ?_⟩⟩
  ·refine q false H ?_ (Ab.refl _)
   have e : A2 d 3 3 = false := by rw [<- hb]; simpa using c
   cases d <;> first | rfl | skip
   rename_i ds
   match ds,e with
   | [a,b,c],e => cases e
   | [],_ => rfl
   | [_],_ => rfl
   | [_,_],_ => rfl
   | _ :: _ :: _ :: _ :: _,_ => rfl
  ·have e : A2 d 3 3 = true := by rw [<- hb]; simpa using c
   obtain ⟨ds,rfl⟩ := El e
   obtain ⟨a,b,c',rfl⟩ := three e
   obtain ⟨l,xs,rfl,hl,rs⟩ := Aa.shape r
   obtain ⟨x,y,z,rfl,rx,ry,rz⟩ := Ad.three rs
   refine ⟨l,[x,y,z],rfl,Ac.of hl,rfl,x,[y,z],rfl,y,[z],rfl,z,[],rfl,rfl,p,a,rx,fun b1 e1 => ⟨fun c => ⟨p,b,ry,fun b2 e2 => ⟨fun c2 => ⟨p,c',rz,fun b3 e3 => ?_⟩,fun c2 => ?_⟩⟩,fun c => ?_⟩⟩
   ·exact q _ _ (by unfold Dw; dsimp only; rw [e3,<- e1,c]; rw [show BW b 0 7 = true from by rw [<- c2,e2]; rfl]; rfl) (Ab.refl _)
   ·exact q _ _ (by unfold Dw; dsimp only; rw [<- e1,c]; rw [show BW b 0 7 = false from by rw [<- c2,e2]; rfl]; rfl) (Ab.refl _)
   ·exact q _ _ (by unfold Dw; dsimp only; rw [<- e1,c]; rfl) (Ab.refl _)
 ·exact h.elim
theorem sc_is_main : Av ["thing","low","high","start"] ["thing"] (Ar s_is_main) := Ax
theorem Qb (F : Df K mg "is_main" s_is_main ["thing"]) (T : Tx mg) (D_is_tuple_of : Cp P w K mg base) (D_is_whole_from : C9 P w K mg base) : Fn P w K mg base 3 "is_main" ["thing"] Ga := by
 obtain ⟨t_MOST_IN_MAIN,g_MOST_IN_MAIN⟩ := T.g_MOST_IN_MAIN
 refine F.fn sc_is_main (fun vs H Q E h => ?_) (fun f cdv A outer s H vs Q E hr h => ?_)
 ·exact P5 h
 refine ⟨_,(Aj (AU (BM (BA (Ai D_is_tuple_of (hr.mono (by decide)) rfl (AD (cy 0) Ah Ah)))) (Am (As BY)) AT) (Aj (AR (cy 0) (AC K (n := 3) (Ag (Af 1 sc_is_main.nd) (Ag (Af 2 sc_is_main.nd) (Ag (Af 3 sc_is_main.nd) AB))))) (Am (As (Bf (Ai D_is_whole_from (hr.mono (by decide)) rfl (AD (cy 2) Ah (Cs (v := .int 40) rfl g_MOST_IN_MAIN ⟨t_MOST_IN_MAIN,rfl⟩))) (Bf (Ai D_is_whole_from (hr.mono (by decide)) rfl (AD (cy 3) Ah (cy 2))) (BF (Ai D_is_whole_from (hr.mono (by decide)) rfl (AD (cy 1) Ah (cy 3)))))))))),?_⟩
 unfold Ga B5 at h
 split at h
 ·rename_i v
  obtain ⟨p,d,r,q⟩ := h
  refine ⟨p,d,r,fun b hb => ⟨fun c => ?_,fun c => ?_⟩⟩
  ·refine q false H ?_ (Ab.refl _)
   have e : A2 d 3 3 = false := by rw [<- hb]; simpa using c
   cases d <;> first | rfl | skip
   rename_i ds
   match ds,e with
   | [a,b,c],e => cases e
   | [],_ => rfl
   | [_],_ => rfl
   | [_,_],_ => rfl
   | _ :: _ :: _ :: _ :: _,_ => rfl
  ·have e : A2 d 3 3 = true := by rw [<- hb]; simpa using c
   obtain ⟨ds,rfl⟩ := El e
   obtain ⟨a,b,c',rfl⟩ := three e
   obtain ⟨l,xs,rfl,hl,rs⟩ := Aa.shape r
   obtain ⟨x,y,z,rfl,rx,ry,rz⟩ := Ad.three rs
   refine ⟨l,[x,y,z],rfl,Ac.of hl,rfl,x,[y,z],rfl,y,[z],rfl,z,[],rfl,rfl,p,b,ry,fun b1 e1 => ⟨fun c1 => ?_,fun c1 => ?_⟩⟩
   ·rw [c1] at e1
    cases b <;> first | cases e1 | skip
    rename_i hi
    unfold Aa at ry
    subst ry
    refine ⟨p,c',rz,fun b2 e2 => ⟨fun c2 => ?_,fun c2 => ?_⟩⟩
    ·rw [c2] at e2
     cases c' <;> first | cases e2 | skip
     rename_i st
     unfold Aa at rz
     subst rz
     refine ⟨p,a,rx,fun b3 e3 => ?_⟩
     exact q _ _ (by unfold DS; dsimp only; rw [e3]; rw [<- e1,<- e2]; rfl) (Ab.refl _)
    ·exact q _ _ (by unfold DS; dsimp only; rw [<- e1,<- e2,c2]; rfl) (Ab.refl _)
   ·exact q _ _ (by unfold DS; dsimp only; rw [<- e1,c1]; rfl) (Ab.refl _)
 ·exact h.elim
theorem Qc : Av ["thing"] ["thing"] (Ar s_are_boilers) := Ax
theorem Qd (F : Df K mg "are_boilers" s_are_boilers ["thing"]) (T : Tx mg) (D_is_make_and_coal : Fn P w K mg base 3 "is_make_and_coal" ["thing"] F8) (D_is_tuple_of : Cp P w K mg base) : Fn P w K mg base 4 "are_boilers" ["thing"] Gb := by
 obtain ⟨t_MOST_BOILERS,g_MOST_BOILERS⟩ := T.g_MOST_BOILERS
 refine F.fn Qc (fun vs H Q E h => ?_) (fun f cdv A outer s H vs Q E hr h => ?_)
 ·exact P6 h
 refine ⟨_,(Am (As (Bf (Ai D_is_tuple_of (hr.mono (by decide)) rfl (AD (cy 0) Ah (Cs (v := .int 4) rfl g_MOST_BOILERS ⟨t_MOST_BOILERS,rfl⟩))) (BF (AF (Dn rfl) rfl T.b_all boot_all (Al (A8 ["part"] [none] rfl (BJ K (cy 0)) (AJ.of rfl) (fun _ _ _ _ => (Af 0 (AG (by rfl)))) (fun _ _ _ _ => AX) (fun _ _ _ _ => (Ai D_is_make_and_coal (hr.mono (by decide)) rfl (Al (cy 0))))))))))),?_⟩
 unfold Gb B5 at h
 split at h
 ·rename_i v
  obtain ⟨p,d,r,q⟩ := h
  refine ⟨p,d,r,fun b hb => ⟨fun c => ?_,fun c => ?_⟩⟩
  ·rw [c] at hb
   obtain ⟨ds,rfl⟩ := El hb.symm
   obtain ⟨l,xs,rfl,hl,rs⟩ := Aa.shape r
   have hlen := rs.len
   have hsm : ds.length <= 4 := by
    have := hb.symm; unfold A2 at this; simp only [Bool.and_eq_true,decide_eq_true_eq] at this; omega
   refine ⟨l,rfl,⟨xs,Ac.of hl⟩,BO (xs := xs) (fun i ys H' => Ab H H' /\ ys = (ds.take i).map fun d => V.bl (DR d)) (by omega) ⟨Ab.refl _,rfl⟩ (fun i ys H' h => by rw [h.2,List.length_map,List.length_take]; omega) (fun i ys H' _ h => Ac.of (h.1 _ _ hl)) (fun i x ys H' hx h => ?_) fun ys H' h => ?_⟩
   ·obtain ⟨d,hd,rd⟩ := rs.got hx
    refine ⟨trivial,fun _ => ⟨p,d,Aa.ev (Ev.same h.1) d x rd,fun b H2 e s2 => ⟨h.1.trans s2,?_⟩⟩,fun c => by cases c⟩
    rw [h.2,e,KU _ hd]
   ·intro m hm
    refine ⟨m,ds.map DR,rfl,?_,?_⟩
    ·rw [Ak,h.2,<- hlen,List.take_length,List.map_map]; rfl
    ·refine q _ _ ?_ (h.1.trans (Ab.new hm))
     unfold Eh; dsimp only; rw [<- hb,List.all_map,Bool.true_and]; rfl
  ·refine q _ _ ?_ (Ab.refl _)
   have e : A2 d 1 4 = false := by rw [<- hb,c]
   unfold Eh
   cases d <;> first | rfl | skip
   dsimp only; rw [e]; rfl
 ·exact h.elim
theorem Qe : Av ["thing"] ["thing"] (Ar s_are_engines) := Ax
theorem Qf (F : Df K mg "are_engines" s_are_engines ["thing"]) (T : Tx mg) (D_is_engine : Fn P w K mg base 3 "is_engine" ["thing"] F9) (D_is_tuple_of : Cp P w K mg base) : Fn P w K mg base 4 "are_engines" ["thing"] Gc := by
 obtain ⟨t_MOST_ENGINES,g_MOST_ENGINES⟩ := T.g_MOST_ENGINES
 refine F.fn Qe (fun vs H Q E h => ?_) (fun f cdv A outer s H vs Q E hr h => ?_)
 ·exact P7 h
 refine ⟨_,(Am (As (Bf (Ai D_is_tuple_of (hr.mono (by decide)) rfl (AD (cy 0) Ah (Cs (v := .int 4) rfl g_MOST_ENGINES ⟨t_MOST_ENGINES,rfl⟩))) (BF (AF (Dn rfl) rfl T.b_all boot_all (Al (A8 ["part"] [none] rfl (BJ K (cy 0)) (AJ.of rfl) (fun _ _ _ _ => (Af 0 (AG (by rfl)))) (fun _ _ _ _ => AX) (fun _ _ _ _ => (Ai D_is_engine (hr.mono (by decide)) rfl (Al (cy 0))))))))))),?_⟩
 unfold Gc B5 at h
 split at h
 ·rename_i v
  obtain ⟨p,d,r,q⟩ := h
  refine ⟨p,d,r,fun b hb => ⟨fun c => ?_,fun c => ?_⟩⟩
  ·rw [c] at hb
   obtain ⟨ds,rfl⟩ := El hb.symm
   obtain ⟨l,xs,rfl,hl,rs⟩ := Aa.shape r
   have hlen := rs.len
   have hsm : ds.length <= 4 := by
    have := hb.symm; unfold A2 at this; simp only [Bool.and_eq_true,decide_eq_true_eq] at this; omega
   refine ⟨l,rfl,⟨xs,Ac.of hl⟩,BO (xs := xs) (fun i ys H' => Ab H H' /\ ys = (ds.take i).map fun d => V.bl (Dw d)) (by omega) ⟨Ab.refl _,rfl⟩ (fun i ys H' h => by rw [h.2,List.length_map,List.length_take]; omega) (fun i ys H' _ h => Ac.of (h.1 _ _ hl)) (fun i x ys H' hx h => ?_) fun ys H' h => ?_⟩
   ·obtain ⟨d,hd,rd⟩ := rs.got hx
    refine ⟨trivial,fun _ => ⟨p,d,Aa.ev (Ev.same h.1) d x rd,fun b H2 e s2 => ⟨h.1.trans s2,?_⟩⟩,fun c => by cases c⟩
    rw [h.2,e,KU _ hd]
   ·intro m hm
    refine ⟨m,ds.map Dw,rfl,?_,?_⟩
    ·rw [Ak,h.2,<- hlen,List.take_length,List.map_map]; rfl
    ·refine q _ _ ?_ (h.1.trans (Ab.new hm))
     unfold Ei; dsimp only; rw [<- hb,List.all_map,Bool.true_and]; rfl
  ·refine q _ _ ?_ (Ab.refl _)
   have e : A2 d 0 4 = false := by rw [<- hb,c]
   unfold Ei
   cases d <;> first | rfl | skip
   dsimp only; rw [e]; rfl
 ·exact h.elim
theorem sc_is_plant : Av ["thing","boilers","engines","main"] ["thing"] (Ar s_is_plant) := Ax
theorem Qg (F : Df K mg "is_plant" s_is_plant ["thing"]) (T : Tx mg) (D_are_boilers : Fn P w K mg base 4 "are_boilers" ["thing"] Gb) (D_are_engines : Fn P w K mg base 4 "are_engines" ["thing"] Gc) (D_is_main : Fn P w K mg base 3 "is_main" ["thing"] Ga) (D_is_tuple_of : Cp P w K mg base) : Fn P w K mg base 5 "is_plant" ["thing"] Gd := by
 refine F.fn sc_is_plant (fun vs H Q E h => ?_) (fun f cdv A outer s H vs Q E hr h => ?_)
 ·exact P8 h
 refine ⟨_,(Aj (AU (BM (BA (Ai D_is_tuple_of (hr.mono (by decide)) rfl (AD (cy 0) Ah Ah)))) (Am (As BY)) AT) (Aj (AR (cy 0) (AC K (n := 3) (Ag (Af 1 sc_is_plant.nd) (Ag (Af 2 sc_is_plant.nd) (Ag (Af 3 sc_is_plant.nd) AB))))) (Am (As (Bf (Ai D_are_boilers (hr.mono (by decide)) rfl (Al (cy 1))) (Bf (Ai D_are_engines (hr.mono (by decide)) rfl (Al (cy 2))) (BF (Ai D_is_main (hr.mono (by decide)) rfl (Al (cy 3)))))))))),?_⟩
 unfold Gd B5 at h
 split at h
 ·rename_i v
  obtain ⟨p,d,r,q⟩ := h
  refine ⟨p,d,r,fun b hb => ⟨fun c => ?_,fun c => ?_⟩⟩
  ·refine q false H ?_ (Ab.refl _)
   have e : A2 d 3 3 = false := by rw [<- hb]; simpa using c
   cases d <;> first | rfl | skip
   rename_i ds
   match ds,e with
   | [a,b,c],e => cases e
   | [],_ => rfl
   | [_],_ => rfl
   | [_,_],_ => rfl
   | _ :: _ :: _ :: _ :: _,_ => rfl
  ·have e : A2 d 3 3 = true := by rw [<- hb]; simpa using c
   obtain ⟨ds,rfl⟩ := El e
   obtain ⟨a,b,c',rfl⟩ := three e
   obtain ⟨l,xs,rfl,hl,rs⟩ := Aa.shape r
   obtain ⟨x,y,z,rfl,rx,ry,rz⟩ := Ad.three rs
   refine ⟨l,[x,y,z],rfl,Ac.of hl,rfl,x,[y,z],rfl,y,[z],rfl,z,[],rfl,rfl,p,a,rx,fun b1 H1 e1 s1 => ⟨fun c => ⟨p,b,Aa.ev (Ev.same s1) _ _ ry,fun b2 H2 e2 s2 => ⟨fun c2 => ⟨p,c',Aa.ev (Ev.same (s1.trans s2)) _ _ rz,fun b3 H3 e3 s3 => ?_⟩,fun c2 => ?_⟩⟩,fun c => ?_⟩⟩
   ·exact q _ _ (by unfold Ej; dsimp only; rw [e3,<- e1,<- e2,c,c2]; rfl) (s1.trans (s2.trans s3))
   ·exact q _ _ (by unfold Ej; dsimp only; rw [<- e1,<- e2,c,c2]; rfl) (s1.trans s2)
   ·exact q _ _ (by unfold Ej; dsimp only; rw [<- e1,c]; rfl) s1
 ·exact h.elim
end
end MF
end
section
namespace MF
open PySem PySem.Spec PyProof.Rows L2
def Bd (p : Addr) (H : Hp) : Prop := ∃ l f : Int,H p = some (.lst [.int l,.int f])
theorem Bd.new {p a : Addr} {H : Hp} {o : HO} (h : Bd p H) (n : H a = none) : Bd p (upd H a o) := by
 obtain ⟨l,f,e⟩ := h; exact ⟨l,f,by rw [Au (A6 e n)]; exact e⟩
theorem Bd.ne {p a : Addr} {H : Hp} (h : Bd p H) (n : H a = none) : a ≠ p := by obtain ⟨l,f,e⟩ := h; exact Ne.symm (A6 e n)
theorem Bd.same {p : Addr} {H H' : Hp} (h : Bd p H) (s : Ab H H') : Bd p H' := by obtain ⟨l,f,e⟩ := h; exact ⟨l,f,s _ _ e⟩
def Ge (K : PySem.W.Frag) : Sp := fun vs H Q _ => match vs with | [.ref a,.int k] => ∃ ns : List Int,An K H a (ns.map V.int) /\ 0 <= k /\ ∀ i,Q (.int i) H | _ => False
def Gf : Sp := fun vs H Q _ => match vs with | [.int c] => ∀ p l f,H p = none -> Q (.ref p) (upd H p (.lst [.int l,.int f])) | _ => False
def EY : Sp := fun vs H Q _ => match vs with | [.ref p,.int m] => Bd p H /\ 0 < m /\ m < 1000 /\ ∀ g H',0 <= g -> g < m -> Ev p H H' -> Bd p H' -> Q (.int g) H' | _ => False
theorem Dx {ns : List Int} {g : Int} (h0 : 0 <= g) (h1 : g < ns.length) : ∃ v ∈ ns,Ci (ns.map V.int) g = some (.int v) := by
 have hk : g.toNat < ns.length := by omega
 have e : g = ((g.toNat : Nat) : Int) := by omega
 refine ⟨ns[g.toNat],List.getElem_mem hk,?_⟩
 have q : Ci (ns.map V.int) ((g.toNat : Nat) : Int) = some (.int ns[g.toNat]) := B9 (by simp [hk])
 rw [<- e] at q
 exact q
section
variable {P : Program} {w : World} {K : PySem.W.Frag} {mg : Str -> Option Value} {base : Heap}
theorem Qh : Av ["_law_script","_law_k"] ["_law_script","_law_k"] (Ar s__law_cell) := Ax
theorem Qi (F : Df K mg "_law_cell" s__law_cell ["_law_script","_law_k"]) (T : Tx mg)  : Fn P w K mg base 1 "_law_cell" ["_law_script","_law_k"] (Ge K) := by
 refine F.fn Qh (fun vs H Q E h => ?_) (fun f cdv A outer s H vs Q E hr h => ?_)
 ·unfold Ge at h; split at h; rfl; exact h.elim
 refine ⟨_,(Aj (AU (AN Cz (cy 1) (AF (Bb K) rfl T.b_len PySem.boot_len (Al (cy 0))) (AL _)) (Am (As (Az (Bk K) (cy 0) (cy 1) (fun _ _ => rfl)))) AT) (Am (As Ah))),?_⟩
 unfold Ge at h
 split at h
 ·rename_i a k
  obtain ⟨ns,hs,h0,q⟩ := h
  refine ⟨a,_,rfl,.inl hs,⟨fun c => ?_,fun c => q 0⟩⟩
  have c' : k < (ns.length : Int) := by have := of_decide_eq_true c; simpa using this
  obtain ⟨v,_,e⟩ := Dx h0 c'
  exact ⟨a,_,k,.int v,rfl,rfl,hs,e,q v⟩
 ·exact h.elim
theorem sc__law_pen : Av ["_law_cell_here","_law_more"] ["_law_cell_here"] (Ar s__law_pen) := Ax
theorem Qj (F : Df K mg "_law_pen" s__law_pen ["_law_cell_here"]) (T : Tx mg)  : Fn P w K mg base 1 "_law_pen" ["_law_cell_here"] Gf := by
 refine F.fn sc__law_pen (fun vs H Q E h => ?_) (fun f cdv A outer s H vs Q E hr h => ?_)
 ·unfold Gf at h; split at h; rfl; exact h.elim
 refine ⟨_,(Aj (AE (i := 1) sc__law_pen.nd rfl (Aw (by rfl)) (AF (Hc rfl) rfl T.b_max boot_max (Ap (cy 0) (Aq AY Ah (cy 0))))) (Am (As (BB (Ap (cy 1) (By He rfl T.b_int L2.boot_int (Al (Cv Jy (cy 1) (Aq Nl Ah Ah) (AL _))))))))),?_⟩
 unfold Gf at h
 split at h
 ·rename_i c
  refine ⟨c,0 - c,rfl,?_⟩
  exact ⟨⟨by decide,by decide,by decide⟩,.inr ⟨_,rfl,fun p hp => h p _ _ hp⟩⟩
 ·exact h.elim
theorem sc__law_draw : Av ["_law_pen_here","_law_many","_law_rest","_law_drawn","_law_stir"] ["_law_pen_here","_law_many"] (Ar s__law_draw) := Ax
theorem Qk (F : Df K mg "_law_draw" s__law_draw ["_law_pen_here","_law_many"]) (T : Tx mg)  : Fn P w K mg base 1 "_law_draw" ["_law_pen_here","_law_many"] EY := by
 refine F.fn sc__law_draw (fun vs H Q E h => ?_) (fun f cdv A outer s H vs Q E hr h => ?_)
 ·unfold EY at h; split at h; rfl; exact h.elim
 refine ⟨_,(Aj (AU (AN CG (Az (Bk K) (cy 0) Ah (fun _ _ => rfl)) Ah (AL _)) (Aj (AR (AF L7 rfl T.b_divmod boot_divmod (Ap (Az (Bk K) (cy 0) Ah (fun _ _ => rfl)) (cy 1))) (AC K (n := 2) (Ag (Af 2 sc__law_draw.nd) (Ag (Af 3 sc__law_draw.nd) AB)))) (Aj (AR (cy 2) (Iy (cy 0) Ah Fs)) (Am (As (cy 3))))) AT) (Aj (AE (i := 4) sc__law_draw.nd rfl (Aw (by rfl)) (Aq D6 (Aq CL (Aq AV (Aq D6 (Az (Bk K) (cy 0) Ah (fun _ _ => rfl)) Ah) Ah) Ah) Ah)) (Aj (AE (i := 4) sc__law_draw.nd rfl (Aw (by rfl)) (Aq D6 (Aq AV (Aq CL (cy 4) (cy 4)) Ah) Ah)) (Aj (AR (Aq D6 (Aq AV (Aq CL (cy 4) Ah) Ah) Ah) (Iy (cy 0) Ah Fs)) (Am (As (Aq D6 (Aq FJ (Az (Bk K) (cy 0) Ah (fun _ _ => rfl)) Ah) (cy 1)))))))),?_⟩
 unfold EY at h
 split at h
 ·rename_i p m
  obtain ⟨⟨l,f,hp⟩,h0,h1,q⟩ := h
  refine ⟨p,[.int l,.int f],1,.int f,rfl,rfl,An.of hp,rfl,rfl,⟨fun c => ?_,fun c => ?_⟩⟩
  ·refine ⟨p,[.int l,.int f],0,.int l,rfl,rfl,An.of hp,rfl,l,m,rfl,⟨h0,by omega⟩,fun t ht => ?_⟩
   have hpt : p ≠ t := A6 hp ht
   have hp' : upd H t (.tup [.int (l / m),.int (l % m)]) p = some (.lst [.int l,.int f]) := by rw [Au hpt]; exact hp
   refine ⟨t,[.int (l / m),.int (l % m)],rfl,Ac.of Ak,rfl,_,_,rfl,_,_,rfl,rfl,?_⟩
   refine ⟨p,[.int l,.int f],0,0,rfl,rfl,hp',rfl,?_⟩
   exact q _ _ (Int.emod_nonneg _ (by omega)) (Int.emod_lt_of_pos _ h0) ((Ev.new ht).trans (Ev.pen hp')) ⟨l / m,f,Ak⟩
  ·have b1 : ∀ x : Int,-(2 ^ 64) < x % 2147483629 := fun x => Int.lt_of_lt_of_le (by decide) (Int.emod_nonneg x (by decide))
   have b2 : ∀ x : Int,x % 2147483629 < 2 ^ 64 := fun x => Int.lt_trans (Int.emod_lt_of_pos x (by decide)) (by decide)
   have g1 : (0 : Int) < 2147483647 := by decide
   have g2 : (0 : Int) < 2147483629 := by decide
   have g3 : (0 : Int) < 2147483587 := by decide
   have c1 : -(2 ^ 64) < (69621 : Int) /\ (69621 : Int) < 2 ^ 64 := by decide
   have c2 : -(2 ^ 64) < (48271 : Int) /\ (48271 : Int) < 2 ^ 64 := by decide
   refine ⟨p,[.int l,.int f],0,.int l,rfl,rfl,An.of hp,rfl,g1,.inr c1,g2,.inl ⟨b1 _,b2 _⟩,g3,.inr c2,g2,p,[.int l,.int f],0,0,rfl,rfl,hp,rfl,?_⟩
   refine ⟨p,_,0,_,rfl,rfl,An.of Ak,rfl,⟨by decide,by decide⟩,h0,?_⟩
   exact q _ _ (Int.emod_nonneg _ (by omega)) (Int.emod_lt_of_pos _ h0) (Ev.pen hp) ⟨_,f,Ak⟩
 ·exact h.elim
end
end MF
end
section
namespace MF
open PySem PySem.Spec PyProof.Rows L2
variable {H H2 H' H3 : Hp} {ys zs : List V} {p p' t : Addr} {Good : PyData -> Prop} {i : Nat}
mutual
def Ce : PyData -> Bool
 | .list _ => false | .dict _ => false | .tuple ds => Em ds | _ => true
def Em : List PyData -> Bool
 | [] => true
 | d :: ds => Ce d && Em ds
end
def TEv (H H' : Hp) : Prop := ∀ a xs,H a = some (.tup xs) -> H' a = some (.tup xs)
theorem TEv.trans {H1 : Hp} (a : TEv H H1) (b : TEv H1 H2) : TEv H H2 := fun c o h => b c o (a c o h)
theorem _root_.L2.Ev.tev {p : Addr} {H H' : Hp} (h : Ev p H H') : TEv H H' := fun a xs q => h.tup q
theorem TEv.upd {a : Addr} (h : H a = some (.lst ys)) : TEv H (upd H a (.lst zs)) := fun b xs q => by
 rw [Au (Lq q h (by intro z; cases z))]; exact q
mutual
theorem Aa.tev (h : TEv H H') : ∀ (d : PyData) (v : V),Ce d = true -> Aa p H d v -> Aa p' H' d v
 | .none,v,_,q => q
 | .bool _,v,_,q => q
 | .int _,v,_,q => q
 | .str _,v,_,q => q
 | .tuple ds,v,n,q => by
  unfold Aa at q ⊢
  obtain ⟨a,xs,e,r,z⟩ := q
  exact ⟨a,xs,e,h _ _ r,Ad.tev h ds xs (by unfold Ce at n; exact n) z⟩
 | .list ds,v,n,q => by unfold Ce at n; cases n
 | .dict kvs,v,n,q => by unfold Ce at n; cases n
theorem Ad.tev (h : TEv H H') : ∀ (ds : List PyData) (xs : List V),Em ds = true -> Ad p H ds xs -> Ad p' H' ds xs
 | [],xs,_,q => by unfold Ad at q ⊢; exact q
 | d :: ds,xs,n,q => by
  unfold Ad at q ⊢
  unfold Em at n
  obtain ⟨n1,n2⟩ := Bool.and_eq_true_iff.mp n
  obtain ⟨x,r,e,z,zs⟩ := q
  exact ⟨x,r,e,Aa.tev h d x n1 z,Ad.tev h ds r n2 zs⟩
end
theorem EZ {ds : List PyData} (h : ∀ d ∈ ds,Ce d = true) : Em ds = true := by
 induction ds with
 | nil => rfl
 | cons d ds ih => unfold Em; rw [h d List.mem_cons_self,ih fun x hx => h x (List.mem_cons_of_mem _ hx)]; rfl
theorem _root_.L2.Ev.own {p b : Addr} {H H' : Hp} {o : HO} (h : Ev p H H') (n : H b = none) : Ev p H (upd H' b o) := fun x u q => (h x u q).elim .inl fun r => .inr (by rw [Au (A6 q n)]; exact r)
def GoodB (d : PyData) : Prop := ∃ m c : Int,d = .tuple [.int m,.int c] /\ 1 <= m /\ m <= 9 /\ 1 <= c /\ c <= 9
def GoodE (d : PyData) : Prop := ∃ a f e : Int,d = .tuple [.int a,.int f,.int e] /\ 1 <= a /\ a <= 9 /\ 0 <= f /\ f <= 7 /\ 1 <= e /\ e <= 8
theorem GoodB.nm {d : PyData} (h : GoodB d) : Ce d = true := by obtain ⟨m,c,rfl,_⟩ := h; rfl
theorem GoodE.nm {d : PyData} (h : GoodE d) : Ce d = true := by obtain ⟨m,c,e,rfl,_⟩ := h; rfl
structure GoodP (bs es : List PyData) (lo hi st : Int) : Prop where
 b : ∀ d ∈ bs,GoodB d
 b1 : 1 <= bs.length
 b4 : bs.length <= 4
 e : ∀ d ∈ es,GoodE d
 e4 : es.length <= 4
 lo0 : 0 <= lo
 ls : lo <= st
 sh : st <= hi
 h4 : hi <= 40
def KW (bs es : List PyData) (lo hi st : Int) : PyData := .tuple [.tuple bs,.tuple es,.tuple [.int lo,.int hi,.int st]]
def Gg : Sp := fun vs H Q _ => match vs with | [.ref p,.int m] => Bd p H /\ 1 <= m /\ m <= 4 /\ ∀ v H' bs es lo hi st,GoodP bs es lo hi st -> Aa p H' (KW bs es lo hi st) v -> Ev p H H' -> Bd p H' -> Q v H' | _ => False
structure Filled (Good : PyData -> Prop) (p b : Addr) (H H2 : Hp) (i : Nat) : Prop where
 ev : Ev p H H2
 pen : Bd p H2
 ex : ∃ xs ds,H2 b = some (.lst xs) /\ Ad p H2 ds xs /\ (∀ d ∈ ds,Good d) /\ ds.length = i
theorem Filled.step {b : Addr} {d : PyData} {xs : List V} {ds : List PyData} (nm : ∀ d,Good d -> Ce d = true) (hx : H2 b = some (.lst xs)) (rs : Ad p H2 ds xs) (gd : ∀ d ∈ ds,Good d) (hl : ds.length = i) (e3 : Ev p H2 H3) (nb : b ≠ p) (hb : H b = none) (ev : Ev p H H3) (pn : Bd p H3)
  (ht : H3 t = none) (rd : Aa p (upd H3 t (.tup ys)) d (.ref t)) (g : Good d) : Filled Good p b H (upd (upd H3 t (.tup ys)) b (.lst (xs ++ [.ref t]))) (i + 1) := by
 have hb3 : H3 b = some (.lst xs) := e3.lst hx nb
 have hbt : b ≠ t := A6 hb3 ht
 have hbt' : upd H3 t (.tup ys) b = some (.lst xs) := by rw [Au hbt]; exact hb3
 have tv : TEv (upd H3 t (.tup ys)) (upd (upd H3 t (.tup ys)) b (.lst (xs ++ [.ref t]))) := TEv.upd hbt'
 have pn2 : Bd p (upd H3 t (.tup ys)) := pn.new ht
 refine ⟨(ev.trans (Ev.new ht)).own hb,?_,xs ++ [.ref t],ds ++ [d],Ak,?_,?_,by simp [hl]⟩
 ·obtain ⟨l,f,e⟩ := pn2
  exact ⟨l,f,by rw [Au (Ne.symm nb)]; exact e⟩
 ·exact (Ad.tev ((e3.trans (Ev.new ht)).tev.trans tv) ds xs (EZ fun d h => nm d (gd d h)) rs).append (.cons (Aa.tev tv d _ (nm d g) rd) .nil)
 ·intro x hx
  rcases List.mem_append.mp hx with h | h
  ·exact gd x h
  ·rw [List.mem_singleton.mp h]; exact g
theorem Filled.done {b : Addr} (f : Filled Good p b H H2 i) (nb : b ≠ p) (e3 : Ev p H2 H3) : ∃ xs ds,H3 b = some (.lst xs) /\ Ad p H3 ds xs /\ (∀ d ∈ ds,Good d) /\ ds.length = i := by
 obtain ⟨xs,ds,h1,h2,h3,h4⟩ := f.ex
 exact ⟨xs,ds,e3.lst h1 nb,Ad.ev e3 ds xs h2,h3,h4⟩
theorem Filled.other {b e : Addr} {H4 H7 : Hp} {ws : List V} (nm : ∀ d,Good d -> Ce d = true) (f : Filled Good p b H H4 i) (e47 : Ev p H4 H7) (ht : H7 t = none) (he : H7 e = some (.lst ys)) (hHe : H e = none) (nb : b ≠ p) (neb : b ≠ e) (ne : e ≠ p) (pn : Bd p H7) :
  Filled Good p b H (upd (upd H7 t (.tup zs)) e (.lst ws)) i := by
 obtain ⟨xs,ds,h1,h2,h3,h4⟩ := f.ex
 have h7 : H7 b = some (.lst xs) := e47.lst h1 nb
 have het : upd H7 t (.tup zs) e = some (.lst ys) := by rw [Au (A6 he ht)]; exact he
 refine ⟨((f.ev.trans e47).trans (Ev.new ht)).own hHe,?_,xs,ds,?_,?_,h3,h4⟩
 ·obtain ⟨l,g,z⟩ := pn.new (o := .tup zs) ht
  exact ⟨l,g,by rw [Au (Ne.symm ne)]; exact z⟩
 ·rw [Au neb,Au (A6 h7 ht)]; exact h7
 ·exact Ad.tev ((e47.trans (Ev.new ht)).tev.trans (TEv.upd het)) ds xs (EZ fun d h => nm d (h3 d h)) h2
theorem Da {n : Nat} (h : n <= 1000) : n < sizeLine := Nat.lt_of_le_of_lt h (by decide)
section
variable {P : Program} {w : World} {K : PySem.W.Frag} {mg : Str -> Option Value} {base : Heap}
theorem sc__law_plant : Av ["_law_pen_here","_law_most","_law_boilers","_law_turn","_law_engines","_law_low","_law_high","_law_start"] ["_law_pen_here","_law_most"] (Ar s__law_plant) := Ax
theorem Ql (F : Df K mg "_law_plant" s__law_plant ["_law_pen_here","_law_most"]) (T : Tx mg) (D__law_draw : Fn P w K mg base 1 "_law_draw" ["_law_pen_here","_law_many"] EY) : Fn P w K mg base 2 "_law_plant" ["_law_pen_here","_law_most"] Gg := by
 refine F.fn sc__law_plant (fun vs H Q E h => ?_) (fun f cdv A outer s H vs Q E hr h => ?_)
 ·unfold Gg at h; split at h; rfl; exact h.elim
 refine ⟨_,(Aj (AE (i := 2) sc__law_plant.nd rfl (Aw (by rfl)) (BB Ch)) (Aj (BG PassesOwn.never rfl (BN rfl T.b_range (Al (Aq AV Ah (Ai D__law_draw (hr.mono (by decide)) rfl (Ap (cy 0) (cy 1)))))) (Af 3 sc__law_plant.nd) (Am (Bo (Dj PySem.F.plainAttrs_list PySem.F.slot_list_append PySem.F.type_list_append Dk (cy 2) (Al (AZ (Ap (Aq AV Ah (Ai D__law_draw (hr.mono (by decide)) rfl (Ap (cy 0) (Az (Bk K) (BB (Ap Ah Ah)) (Ai D__law_draw (hr.mono (by decide)) rfl (Ap (cy 0) Ah)) (fun _ _ => rfl))))) (Aq AV Ah (Ai D__law_draw (hr.mono (by decide)) rfl (Ap (cy 0) Ah)))))))))) (Aj (AE (i := 4) sc__law_plant.nd rfl (Aw (by rfl)) (BB Ch)) (Aj (BG PassesOwn.never rfl (BN rfl T.b_range (Al (Ai D__law_draw (hr.mono (by decide)) rfl (Ap (cy 0) Ah)))) (Af 3 sc__law_plant.nd) (Am (Bo (Dj PySem.F.plainAttrs_list PySem.F.slot_list_append PySem.F.type_list_append Dk (cy 4) (Al (AZ (AD (Aq AV Ah (Ai D__law_draw (hr.mono (by decide)) rfl (Ap (cy 0) (Az (Bk K) (BB (Ap Ah Ah)) (Ai D__law_draw (hr.mono (by decide)) rfl (Ap (cy 0) Ah)) (fun _ _ => rfl))))) (Ai D__law_draw (hr.mono (by decide)) rfl (Ap (cy 0) Ah)) (Aq AV Ah (Ai D__law_draw (hr.mono (by decide)) rfl (Ap (cy 0) Ah)))))))))) (Aj (AE (i := 5) sc__law_plant.nd rfl (Aw (by rfl)) (Az (Bk K) (BB (Bl Ah Ah (Ai D__law_draw (hr.mono (by decide)) rfl (Ap (cy 0) Ah)) (Ai D__law_draw (hr.mono (by decide)) rfl (Ap (cy 0) Ah)))) (Ai D__law_draw (hr.mono (by decide)) rfl (Ap (cy 0) Ah)) (fun _ _ => rfl))) (Aj (AE (i := 6) sc__law_plant.nd rfl (Aw (by rfl)) (AF (Hd rfl) rfl T.b_min boot_min (Ap Ah (Aq AV (cy 5) (Az (Bk K) (BB (Bl Ah (Ai D__law_draw (hr.mono (by decide)) rfl (Ap (cy 0) Ah)) (Ai D__law_draw (hr.mono (by decide)) rfl (Ap (cy 0) Ah)) Ah)) (Ai D__law_draw (hr.mono (by decide)) rfl (Ap (cy 0) Ah)) (fun _ _ => rfl)))))) (Aj (AE (i := 7) sc__law_plant.nd rfl (Aw (by rfl)) (Az (Bk K) (BB (AD (cy 5) (cy 6) (Aq AV (cy 5) (Ai D__law_draw (hr.mono (by decide)) rfl (Ap (cy 0) (Aq AV (Aq AY (cy 6) (cy 5)) Ah)))))) (Ai D__law_draw (hr.mono (by decide)) rfl (Ap (cy 0) Ah)) (fun _ _ => rfl))) (Am (As (AZ (AD (By (B0 K) rfl T.b_tuple BP (Al (cy 2))) (By (B0 K) rfl T.b_tuple BP (Al (cy 4))) (AZ (AD (cy 5) (cy 6) (cy 7)))))))))))))),?_⟩
 unfold Gg at h
 split at h
 ·rename_i p m
  obtain ⟨pn,m1,m4,q⟩ := h
  refine fun b hb => ?_
  have nb : b ≠ p := pn.ne hb
  refine ⟨pn.new hb,by omega,by omega,fun g1 H1 a1 b1 e1 pn1 => ?_⟩
  have ev1 : Ev p H H1 := (Ev.new hb).trans e1
  have hb1 : H1 b = some (.lst []) := e1.lst Ak nb
  refine ⟨1 + g1,rfl,by omega,by omega,Cg (n := (1 + g1).toNat) (fun i σ H2 => ∃ t,σ = [some (.ref p),some (.int m),some (.ref b),t,none,none,none,none] /\ Filled GoodB p b H H2 i)
   ⟨none,rfl,ev1,pn1,[],[],hb1,.nil,(fun _ h => nomatch h),rfl⟩ (fun i σ H2 hi hP => ?_) fun σ H2 hP => ?_⟩
  ·obtain ⟨t,rfl,ev,pn2,xs,ds,hx,rs,gd,hl⟩ := hP
   refine ⟨.inl ⟨rfl,_,An.of hx⟩,fun l1 hl1 => ⟨pn2.new hl1,by decide,by decide,fun g2 H3 a2 b2 e2 pn3 => ?_⟩⟩
   obtain ⟨v,hv,hat⟩ := Dx (ns := [9,4]) a2 (by simpa using b2)
   have hv' : v = 9 \/ v = 4 := by simpa using hv
   refine ⟨l1,_,g2,.int v,rfl,rfl,An.of (e2.lst Ak (pn2.ne hl1)),hat,pn3,by omega,by omega,fun g3 H4 a3 b3 e3 pn4 => ⟨pn4,by decide,by decide,fun g4 H5 a4 b4 e4 pn5 t1 ht1 => ?_⟩⟩
   have e25 : Ev p H2 H5 := (Ev.new hl1).trans (e2.trans (e3.trans e4))
   refine ⟨b,xs,.ref t1,rfl,rfl,by rw [Au (A6 (e25.lst hx nb) ht1)]; exact e25.lst hx nb,Da (by rw [<- rs.len,hl]; omega),_,rfl,?_⟩
   exact Filled.step (fun d h => h.nm) hx rs gd hl e25 nb hb (ev.trans e25) pn5 ht1 (Aa.tup Ak (.cons Aa.int (.cons Aa.int .nil))) ⟨1 + g3,1 + g4,rfl,by omega,by omega,by omega,by omega⟩
  obtain ⟨t,rfl,fb⟩ := hP
  refine fun e he => ?_
  have ne : e ≠ p := fb.pen.ne he
  have hne : H e = none := by
   cases z : H e with
   | none => rfl
   | some o => exact ((fb.ev e o z).elim (fun ⟨x,_⟩ => absurd x ne) fun x => by rw [x] at he; cases he)
  have neb : e ≠ b := by
   obtain ⟨xs,ds,h1,_⟩ := fb.ex
   exact Ne.symm (A6 h1 he)
  refine ⟨fb.pen.new he,by decide,by decide,fun g6 H3 a6 b6 e6 pn3 => ?_⟩
  have fb3 : Filled GoodB p b H H3 (1 + g1).toNat := ⟨fb.ev.trans ((Ev.new he).trans e6),pn3,fb.done nb ((Ev.new he).trans e6)⟩
  refine ⟨g6,rfl,by omega,by omega,Cg (n := g6.toNat) (fun i σ H4 => ∃ t,σ = [some (.ref p),some (.int m),some (.ref b),t,some (.ref e),none,none,none] /\ Filled GoodB p b H H4 (1 + g1).toNat /\ Filled GoodE p e H H4 i)
   ⟨_,rfl,fb3,fb3.ev,pn3,[],[],e6.lst Ak ne,.nil,(fun _ h => nomatch h),rfl⟩ (fun i σ H4 hi hP => ?_) fun σ H4 hP => ?_⟩
  ·obtain ⟨t,rfl,fb4,ev,pn2,xs,ds,hx,rs,gd,hl⟩ := hP
   refine ⟨.inl ⟨rfl,_,An.of hx⟩,fun l1 hl1 => ⟨pn2.new hl1,by decide,by decide,fun g7 H5 a7 b7 e7 pn5 => ?_⟩⟩
   obtain ⟨v,hv,hat⟩ := Dx (ns := [3,9]) a7 (by simpa using b7)
   have hv' : v = 3 \/ v = 9 := by simpa using hv
   refine ⟨l1,_,g7,.int v,rfl,rfl,An.of (e7.lst Ak (pn2.ne hl1)),hat,pn5,by omega,by omega,fun g8 H6 a8 b8 e8 pn6 => ⟨pn6,by decide,by decide,fun g9 H7 a9 b9 e9 pn7 => ⟨pn7,by decide,by decide,fun g10 H8 a10 b10 e10 pn8 t1 ht1 => ?_⟩⟩⟩
   have e48 : Ev p H4 H8 := (Ev.new hl1).trans (e7.trans (e8.trans (e9.trans e10)))
   have he8 := e48.lst hx ne
   refine ⟨e,xs,.ref t1,rfl,rfl,by rw [Au (A6 he8 ht1)]; exact he8,Da (by rw [<- rs.len,hl]; omega),_,rfl,?_,?_⟩
   ·exact Filled.other (fun d h => h.nm) fb4 e48 ht1 he8 hne nb (Ne.symm neb) ne pn8
   ·exact Filled.step (fun d h => h.nm) hx rs gd hl e48 ne hne (ev.trans e48) pn8 ht1 (Aa.tup Ak (.cons Aa.int (.cons Aa.int (.cons Aa.int .nil)))) ⟨1 + g8,g9,1 + g10,rfl,by omega,by omega,by omega,by omega,by omega,by omega⟩
  obtain ⟨t,rfl,fb4,fe4⟩ := hP
  have pn4 := fb4.pen
  refine ⟨pn4,by decide,by decide,fun g7 H5 a7 b7 e7 pn5 => ⟨pn5,by decide,by decide,fun g8 H6 a8 b8 e8 pn6 l1 hl1 => ⟨pn6.new hl1,by decide,by decide,fun g9 H7 a9 b9 e9 pn7 => ?_⟩⟩⟩
  obtain ⟨low,hlow,hat⟩ := Dx (ns := [0,0,g7,g8]) a9 (by simpa using b9)
  have hlow' : low = 0 \/ low = 0 \/ low = g7 \/ low = g8 := by simpa using hlow
  refine ⟨l1,_,g9,.int low,rfl,rfl,An.of (e9.lst Ak (pn6.ne hl1)),hat,pn7,by decide,by decide,fun g10 H8 a10 b10 e10 pn8 => ⟨pn8,by decide,by decide,fun g11 H9 a11 b11 e11 pn9 l2 hl2 => ⟨pn9.new hl2,by decide,by decide,fun g12 H10 a12 b12 e12 pn10 => ?_⟩⟩⟩
  obtain ⟨x,hx,hat2⟩ := Dx (ns := [0,g10,g11,40]) a12 (by simpa using b12)
  have hx' : x = 0 \/ x = g10 \/ x = g11 \/ x = 40 := by simpa using hx
  refine ⟨l2,_,g12,.int x,rfl,rfl,An.of (e12.lst Ak (pn9.ne hl2)),hat2,40,low + x,rfl,?_⟩
  have hhi : ∃ hi : Int,(if low + x < 40 then low + x else 40) = hi /\ low <= hi /\ hi <= 40 := by
   by_cases c : low + x < 40
   ·exact ⟨low + x,if_pos c,by omega,by omega⟩
   ·exact ⟨40,if_neg c,by omega,by omega⟩
  obtain ⟨hi,ehi,hi1,hi2⟩ := hhi
  rw [ehi]
  refine ⟨pn10,by omega,by omega,fun g13 H11 a13 b13 e13 pn11 l3 hl3 => ⟨pn11.new hl3,by decide,by decide,fun g14 H12 a14 b14 e14 pn12 => ?_⟩⟩
  obtain ⟨st,hst,hat3⟩ := Dx (ns := [low,hi,low + g13]) a14 (by simpa using b14)
  have hst' : st = low \/ st = hi \/ st = low + g13 := by simpa using hst
  refine ⟨l3,_,g14,.int st,rfl,rfl,An.of (e14.lst Ak (pn11.ne hl3)),hat3,?_⟩
  have e4C : Ev p H4 H12 := e7.trans (e8.trans ((Ev.new hl1).trans (e9.trans (e10.trans (e11.trans ((Ev.new hl2).trans (e12.trans (e13.trans ((Ev.new hl3).trans e14)))))))))
  obtain ⟨xs,bs,hb8,rb8,gb,lb⟩ := fb4.done nb e4C
  obtain ⟨ys,es,he8,re8,ge,le⟩ := fe4.done ne e4C
  refine ⟨b,xs,rfl,.inl ⟨An.of hb8,fun c1 hc1 => ⟨e,ys,rfl,.inl ⟨An.of (by rw [Au (A6 he8 hc1)]; exact he8),fun c2 hc2 c3 hc3 c4 hc4 => ?_⟩⟩⟩⟩
  have nA := Ab.new (o := .tup xs) hc1
  have nB := Ab.new (o := .tup ys) hc2
  have nC := Ab.new (o := .tup [.int low,.int hi,.int st]) hc3
  have nD := Ab.new (o := .tup [.ref c1,.ref c2,.ref c3]) hc4
  have sAll := nA.trans (nB.trans (nC.trans nD))
  refine q _ _ bs es low hi st ⟨gb,by omega,by omega,ge,by omega,by omega,by omega,by omega,hi2⟩ ?_ (fb4.ev.trans (e4C.trans (Ev.same sAll))) (pn12.same sAll)
  exact Aa.tup Ak (.cons (Aa.tup ((nB.trans (nC.trans nD)) _ _ Ak) (Ad.ev (Ev.same sAll) _ _ rb8)) (.cons (Aa.tup ((nC.trans nD) _ _ Ak) (Ad.ev (Ev.same sAll) _ _ re8)) (.cons (Aa.tup (nD _ _ Ak) (.cons Aa.int (.cons Aa.int (.cons Aa.int .nil)))) .nil)))
 ·exact h.elim
end
end MF
end
section
namespace MF
open PySem PySem.Spec PyProof.Rows L2
variable {p : Addr} {H : Hp} {v : V}
theorem BX {i lo hi : Int} (h1 : lo <= i) (h2 : i <= hi) : BW (.int i) lo hi = true := by unfold BW; dsimp only; rw [decide_eq_true h1,decide_eq_true h2]; rfl
theorem En {ds : List PyData} {lo hi : Int} (h1 : lo <= (ds.length : Int)) (h2 : (ds.length : Int) <= hi) : A2 (.tuple ds) lo hi = true := by unfold A2; dsimp only; rw [decide_eq_true h1,decide_eq_true h2]; rfl
theorem Qm {P : PL} (h : P.ok) : Ej P.d = true := by
 have b1 := h.b1
 have b4 := h.b4
 have e4 := h.e4
 have hb : Eh (.tuple (P.bs.map bD)) = true := by
  unfold Eh
  dsimp only
  rw [En (by rw [List.length_map]; omega) (by rw [List.length_map]; omega),Bool.true_and,List.all_eq_true]
  intro d hd
  obtain ⟨q,hq,rfl⟩ := List.mem_map.mp hd
  obtain ⟨q1,q2,q3,q4⟩ := h.b q hq
  unfold DR
  dsimp only
  rw [BX q1 q2,BX q3 q4]; rfl
 have he : Ei (.tuple (P.es.map eD)) = true := by
  unfold Ei
  dsimp only
  rw [En (by rw [List.length_map]; omega) (by rw [List.length_map]; omega),Bool.true_and,List.all_eq_true]
  intro d hd
  obtain ⟨q,hq,rfl⟩ := List.mem_map.mp hd
  obtain ⟨q1,q2,q3,q4,q5,q6⟩ := h.e q hq
  unfold Dw
  dsimp only
  rw [BX q1 q2,BX q3 q4,BX q5 q6]; rfl
 have h0 := h.lo0
 have h1 := h.ls
 have h2 := h.sh
 have h3 := h.h4
 have hm : DS (.tuple [.int P.lo,.int P.hi,.int P.st]) = true := by
  unfold DS
  dsimp only
  rw [BX (by omega) h3,BX (by omega) h2,BX h0 h1]; rfl
 unfold Ej PL.d
 dsimp only
 rw [hb,he,hm]; rfl
def Gh : Sp := fun vs H Q _ => match vs with | [v] => ∃ p P,PL.ok P /\ Aa p H P.d v /\ ∀ H',Ab H H' -> Q .non H' | _ => False
def Gi : Sp := fun vs H Q _ => match vs with | [v,.int nb,.int hs] => ∃ p x n h,FT.ok x n h /\ nb = (n : Int) /\ hs = (h : Int) /\ Aa p H x.d v /\ ∀ H',Ab H H' -> Q (.bl true) H' | _ => False
def Gj : Sp := fun vs H Q _ => match vs with | [v,u] => ∃ p P S,PL.ok P /\ SY.ok S P.bs.length /\ Aa p H P.d v /\ Aa p H S.d u /\ ∀ H',Ab H H' -> Q (.bl true) H' | _ => False
def E1 : Sp := fun vs H Q _ => match vs with | [v,u] => ∃ p P S,PL.ok P /\ SY.ok S P.bs.length /\ Aa p H P.d v /\ Aa p H S.d u /\ ∀ H',Ab H H' -> Q .non H' | _ => False
def Gk : Sp := fun vs H Q _ => match vs with | [.ref a,.int m] => ∃ ws : List Bool,H a = some (.lst (ws.map wV)) /\ ∀ H',Ab H H' -> Q (.int (BC ws m)) H' | _ => False
def Gm : Sp := fun vs H Q _ => match vs with | [v,.int b,.int h] => ∃ p fs,Aa p H (.tuple (fs.map FT.d)) v /\ fs.length <= 1000 /\ ∀ a H',Ab H H' -> H' a = some (.lst ((Bm fs b h).map wV)) -> Q (.ref a) H' | _ => False
def Gn : Sp := fun vs H Q _ => match vs with | [v,u,.int h] => ∃ p bs fs,Aa p H (.tuple (bs.map bD)) v /\ Aa p H (.tuple (fs.map FT.d)) u /\ bs.length <= 1000 /\ fs.length <= 1000 /\ ret H Q p (AQ (Bs bs fs h)) | _ => False
def E2 : Sp := fun vs H Q _ => match vs with | [v,u] => ∃ p P S,PL.ok P /\ SY.ok S P.bs.length /\ Aa p H P.d v /\ Aa p H S.d u /\ ret H Q p (FL P S) | _ => False
def Go : Sp := fun vs H Q _ => match vs with | [v,.int h] => ∃ p q,Aa p H (eD q) v /\ 1 <= q.2.2 /\ Q (.int (drawn q h)) H | _ => False
def Eo : Sp := fun vs H Q _ => match vs with | [v,u] => ∃ p P S,PL.ok P /\ SY.ok S P.bs.length /\ Aa p H P.d v /\ Aa p H S.d u /\ ret H Q p (HB P S) | _ => False
theorem Aa.plant {P : PL} (r : Aa p H P.d v) : ∃ A B E M xb xe,v = .ref A /\ H A = some (.tup [.ref B,.ref E,.ref M]) /\ H B = some (.tup xb) /\ Ad p H (P.bs.map bD) xb /\ H E = some (.tup xe) /\ Ad p H (P.es.map eD) xe /\ H M = some (.tup [.int P.lo,.int P.hi,.int P.st]) := by
 unfold PL.d at r
 obtain ⟨A,xs,rfl,hA,rs⟩ := Aa.shape r
 obtain ⟨x,y,z,rfl,rx,ry,rz⟩ := Ad.three rs
 obtain ⟨B,xb,rfl,hB,rb⟩ := Aa.shape rx
 obtain ⟨E,xe,rfl,hE,re⟩ := Aa.shape ry
 obtain ⟨M,xm,rfl,hM,rm⟩ := Aa.shape rz
 obtain ⟨m1,m2,m3,rfl,r1,r2,r3⟩ := Ad.three rm
 unfold Aa at r1 r2 r3
 subst r1 r2 r3
 exact ⟨A,B,E,M,xb,xe,rfl,hA,hB,rb,hE,re,hM⟩
theorem Aa.story {S : SY} (r : Aa p H S.d v) : ∃ A B E xf,v = .ref A /\ H A = some (.tup [.ref B,.ref E]) /\ H B = some (.tup (S.ex.map V.int)) /\ H E = some (.tup xf) /\ Ad p H (S.fs.map FT.d) xf := by
 unfold SY.d at r
 obtain ⟨A,xs,rfl,hA,rs⟩ := Aa.shape r
 obtain ⟨x,y,rfl,rx,ry⟩ := Ad.two rs
 obtain ⟨B,xb,rfl,hB,rb⟩ := Aa.shape rx
 obtain ⟨E,xe,rfl,hE,re⟩ := Aa.shape ry
 rw [Ad.ints rb] at hB
 exact ⟨A,B,E,xe,rfl,hA,hB,hE,re⟩
section
variable {P : Program} {w : World} {K : PySem.W.Frag} {mg : Str -> Option Value} {base : Heap}
theorem Qn : Av ["plant"] ["plant"] (Ar s_need_plant) := Ax
theorem Qo (F : Df K mg "need_plant" s_need_plant ["plant"]) (T : Tx mg) (D_is_plant : Fn P w K mg base 5 "is_plant" ["thing"] Gd) : Fn P w K mg base 6 "need_plant" ["plant"] Gh := by
 refine F.fn Qn (fun vs H Q E h => ?_) (fun f cdv A outer s H vs Q E hr h => ?_)
 ·unfold Gh at h; split at h; rfl; exact h.elim
 refine ⟨_,(Am (AU (BM (BA (Ai D_is_plant (hr.mono (by decide)) rfl (Al (cy 0))))) (Am Dg) AT)),?_⟩
 unfold Gh at h
 split at h
 ·rename_i v
  obtain ⟨p,P,ok,r,q⟩ := h
  refine ⟨p,_,r,fun b H' hb s => ⟨fun c => ?_,fun c => q H' s⟩⟩
  rw [hb,Qm ok] at c
  cases c
 ·exact h.elim
theorem sc_is_fault : Av ["thing","boilers","hours","boiler","word","first","last"] ["thing","boilers","hours"] (Ar s_is_fault) := Ax
theorem Qp (F : Df K mg "is_fault" s_is_fault ["thing","boilers","hours"]) (T : Tx mg) (D_is_tuple_of : Cp P w K mg base) (D_is_whole_from : C9 P w K mg base) : Fn P w K mg base 3 "is_fault" ["thing","boilers","hours"] Gi := by
 refine F.fn sc_is_fault (fun vs H Q E h => ?_) (fun f cdv A outer s H vs Q E hr h => ?_)
 ·unfold Gi at h; split at h; rfl; exact h.elim
 refine ⟨_,(Aj (AU (BM (BA (Ai D_is_tuple_of (hr.mono (by decide)) rfl (AD (cy 0) Ah Ah)))) (Am (As BY)) AT) (Aj (AR (cy 0) (AC K (n := 4) (Ag (Af 3 sc_is_fault.nd) (Ag (Af 4 sc_is_fault.nd) (Ag (Af 5 sc_is_fault.nd) (Ag (Af 6 sc_is_fault.nd) AB)))))) (Am (As (Bf (Ai D_is_whole_from (hr.mono (by decide)) rfl (AD (cy 3) Ah (Aq AY (cy 1) Ah))) (Bf (Cv (D8 K) (cy 4) (AZ (Ap Cr Cr)) (by with_unfolding_all rfl)) (Bf (Ai D_is_whole_from (hr.mono (by decide)) rfl (AD (cy 6) Ah (Aq AY (cy 2) Ah))) (BF (Ai D_is_whole_from (hr.mono (by decide)) rfl (AD (cy 5) Ah (cy 6))))))))))),?_⟩
 unfold Gi at h
 split at h
 ·rename_i v nb hs
  obtain ⟨p,x,n,k,ok,rfl,rfl,r,q⟩ := h
  obtain ⟨o1,o2,o3,o4,o5⟩ := ok
  refine ⟨p,_,r,fun b hb => ⟨fun c => ?_,fun c => ?_⟩⟩
  ·rw [hb] at c; cases c
  ·obtain ⟨l,xs,rfl,hl,rs⟩ := Aa.shape r
   obtain ⟨y1,y2,y3,y4,rfl,r1,r2,r3,r4⟩ := Ad.four rs
   unfold Aa at r1 r2 r3 r4
   subst r1 r2 r3 r4
   refine ⟨l,_,rfl,Ac.of hl,rfl,_,_,rfl,_,_,rfl,_,_,rfl,_,_,rfl,rfl,p,.int x.b,Aa.int,fun b1 e1 => ⟨fun _ => ?_,fun c1 => ?_⟩⟩
   ·refine fun t ht => ⟨t,_,rfl,.inr (Ac.of Ak),rfl,rfl,⟨fun _ => ?_,fun c2 => ?_⟩⟩
    ·refine ⟨p,.int x.l,Aa.int,fun b2 e2 => ⟨fun _ => ⟨p,.int x.f,Aa.int,fun b3 e3 => ?_⟩,fun c2 => ?_⟩⟩
     ·rw [BX o3 o4] at e3
      subst e3
      exact q _ (Ab.new ht)
     ·rw [BX (by omega) (by omega)] at e2
      rw [e2] at c2; cases c2
    ·rw [if_neg (by decide)] at c2
     have := NO x.out
     unfold wV at this
     rw [this] at c2; cases c2
   ·rw [BX o1 (by omega)] at e1
    rw [e1] at c1; cases c1
 ·exact h.elim
theorem sc_is_story : Av ["plant","thing","extra","faults"] ["plant","thing"] (Ar s_is_story) := Ax
theorem Qq (F : Df K mg "is_story" s_is_story ["plant","thing"]) (T : Tx mg) (D_is_fault : Fn P w K mg base 3 "is_fault" ["thing","boilers","hours"] Gi) (D_is_tuple_of : Cp P w K mg base) (D_is_whole_from : C9 P w K mg base) (D_need_plant : Fn P w K mg base 6 "need_plant" ["plant"] Gh) : Fn P w K mg base 7 "is_story" ["plant","thing"] Gj := by
 obtain ⟨t_MOST_EXTRA,g_MOST_EXTRA⟩ := T.g_MOST_EXTRA
 obtain ⟨t_MOST_FAULTS,g_MOST_FAULTS⟩ := T.g_MOST_FAULTS
 obtain ⟨t_MOST_HOURS,g_MOST_HOURS⟩ := T.g_MOST_HOURS
 refine F.fn sc_is_story (fun vs H Q E h => ?_) (fun f cdv A outer s H vs Q E hr h => ?_)
 ·unfold Gj at h; split at h; rfl; exact h.elim
 refine ⟨_,(Aj (Bo (Ai D_need_plant (hr.mono (by decide)) rfl (Al (cy 0)))) (Aj (AU (BM (BA (Ai D_is_tuple_of (hr.mono (by decide)) rfl (AD (cy 1) Ah Ah)))) (Am (As BY)) AT) (Aj (AR (cy 1) (AC K (n := 2) (Ag (Af 2 sc_is_story.nd) (Ag (Af 3 sc_is_story.nd) AB)))) (Am (As (Bf (Ai D_is_tuple_of (hr.mono (by decide)) rfl (AD (cy 2) Ah (Cs (v := .int 8) rfl g_MOST_HOURS ⟨t_MOST_HOURS,rfl⟩))) (Bf (AF (Dn rfl) rfl T.b_all boot_all (Al (A8 ["units"] [none] rfl (BJ K (cy 2)) (AJ.of rfl) (fun _ _ _ _ => (Af 0 (AG (by rfl)))) (fun _ _ _ _ => AX) (fun _ _ _ _ => (Ai D_is_whole_from (hr.mono (by decide)) rfl (AD (cy 0) Ah (Cs (v := .int 20) rfl g_MOST_EXTRA ⟨t_MOST_EXTRA,rfl⟩))))))) (Bf (Ai D_is_tuple_of (hr.mono (by decide)) rfl (AD (cy 3) Ah (Cs (v := .int 4) rfl g_MOST_FAULTS ⟨t_MOST_FAULTS,rfl⟩))) (BF (AF (Dn rfl) rfl T.b_all boot_all (Al (A8 ["part","extra","plant"] [none,some 2,some 0] rfl (BJ K (cy 3)) (AJ.of rfl) (fun _ _ _ _ => (Af 0 (AG (by rfl)))) (fun _ _ _ _ => AX) (fun _ _ _ _ => (Ai D_is_fault (hr.mono (by decide)) rfl (AD (cy 0) (AF (Bb K) rfl T.b_len PySem.boot_len (Al (Az (AK K) (cy 2) Ah (fun _ _ => rfl)))) (AF (Bb K) rfl T.b_len PySem.boot_len (Al (cy 1)))))))))))))))))),?_⟩
 unfold Gj at h
 split at h
 ·rename_i v u
  obtain ⟨p,P,S,ok,so,r,ru,q⟩ := h
  refine ⟨p,P,ok,r,fun H1 s1 => ⟨p,S.d,Aa.ev (Ev.same s1) _ _ ru,fun b hb => ⟨fun c => ?_,fun c => ?_⟩⟩⟩
  ·rw [hb] at c; cases c
  ·obtain ⟨A,B,E,xf,rfl,hA,hB,hE,rf⟩ := Aa.story (Aa.ev (Ev.same s1) _ _ ru)
   obtain ⟨PA,PB,PE,PM,xb,xe,rfl,pA,pB,rb,pE,re,pM⟩ := Aa.plant (Aa.ev (Ev.same s1) _ _ r)
   have x1 := so.x1
   have x8 := so.x8
   have f4 := so.f4
   have lf := rf.len
   rw [List.length_map] at lf
   have lb := rb.len
   rw [List.length_map] at lb
   refine ⟨A,_,rfl,Ac.of hA,rfl,_,_,rfl,_,_,rfl,rfl,p,_,Aa.row hB,fun b1 e1 => ⟨fun _ => ?_,fun c1 => ?_⟩⟩
   ·refine ⟨B,rfl,⟨_,Ac.of hB⟩,BO (xs := S.ex.map V.int) (fun i ys H' => Ab H1 H' /\ ys = List.replicate i (V.bl true)) (by rw [List.length_map]; omega) ⟨Ab.refl _,rfl⟩ (fun i ys H' h => by rw [h.2,List.length_replicate]; omega) (fun i ys H' _ h => Ac.of (h.1 _ _ hB)) (fun i x ys H' hx h => ?_) fun ys H' h => ?_⟩
    ·rw [List.getElem?_map] at hx
     cases z : S.ex[i]? with
     | none => rw [z] at hx; cases hx
     | some n =>
      rw [z] at hx
      cases hx
      obtain ⟨n0,n20⟩ := so.x n (List.mem_of_getElem? z)
      refine ⟨trivial,fun _ => ⟨p,.int n,Aa.int,fun b e => ⟨h.1,?_⟩⟩,fun c => by cases c⟩
      rw [BX n0 n20] at e
      rw [h.2,e,List.replicate_succ']
    ·intro m hm
     refine ⟨m,List.replicate S.ex.length true,rfl,by rw [Ak,h.2,List.length_map,List.map_replicate],⟨fun _ => ?_,fun c => ?_⟩⟩
     ·have s2 : Ab H1 (upd H' m (.lst ys)) := h.1.trans (Ab.new hm)
      refine ⟨p,_,Aa.tup (s2 _ _ hE) (Ad.ev (Ev.same s2) _ _ rf),fun b2 e2 => ⟨fun _ => ?_,fun c2 => ?_⟩⟩
      ·refine ⟨E,rfl,⟨_,Ac.of (s2 _ _ hE)⟩,BO (xs := xf) (fun i zs H2 => Ab H1 H2 /\ zs = List.replicate i (V.bl true)) (by omega) ⟨s2,rfl⟩ (fun i ys H' h => by rw [h.2,List.length_replicate]; omega) (fun i ys H' _ h => Ac.of (h.1 _ _ hE)) (fun i x zs H2 hx h2 => ?_) fun zs H2 h2 => ?_⟩
       ·obtain ⟨f,hf,rd⟩ := Ad.mapGot rf hx
        refine ⟨⟨rfl,rfl,trivial⟩,fun _ => ?_,fun c => by cases c⟩
        refine ⟨PA,_,0,.ref PB,rfl,rfl,Ac.of (h2.1 _ _ pA),rfl,PB,xb,rfl,.inr (Ac.of (h2.1 _ _ pB)),B,_,rfl,.inr (Ac.of (h2.1 _ _ hB)),?_⟩
        refine ⟨p,f,P.bs.length,S.ex.length,so.f f (List.mem_of_getElem? hf),by rw [lb],by rw [List.length_map],Aa.ev (Ev.same h2.1) _ _ rd,fun H3 s3 => ⟨h2.1.trans s3,?_⟩⟩
        rw [h2.2,List.replicate_succ']
       ·intro m2 hm2
        refine ⟨m2,List.replicate xf.length true,rfl,by rw [Ak,h2.2,List.map_replicate],?_⟩
        have ea : (List.replicate xf.length true).all id = true := by simp
        rw [ea]
        exact q _ (s1.trans (h2.1.trans (Ab.new hm2)))
      ·rw [En (by rw [List.length_map]; omega) (by rw [List.length_map]; omega)] at e2
       rw [e2] at c2; cases c2
     ·have ea : (List.replicate S.ex.length true).all id = true := by simp
      rw [ea] at c; cases c
   ·rw [En (by rw [List.length_map]; omega) (by rw [List.length_map]; omega)] at e1
    rw [e1] at c1; cases c1
 ·exact h.elim
theorem Qr : Av ["plant","story"] ["plant","story"] (Ar s_need_story) := Ax
theorem Qs (F : Df K mg "need_story" s_need_story ["plant","story"]) (T : Tx mg) (D_is_story : Fn P w K mg base 7 "is_story" ["plant","thing"] Gj) : Fn P w K mg base 8 "need_story" ["plant","story"] E1 := by
 refine F.fn Qr (fun vs H Q E h => ?_) (fun f cdv A outer s H vs Q E hr h => ?_)
 ·unfold E1 at h; split at h; rfl; exact h.elim
 refine ⟨_,(Am (AU (BM (BA (Ai D_is_story (hr.mono (by decide)) rfl (Ap (cy 0) (cy 1))))) (Am Dg) AT)),?_⟩
 unfold E1 at h
 split at h
 ·rename_i v u
  obtain ⟨p,P,S,ok,so,r,ru,q⟩ := h
  exact ⟨p,P,S,ok,so,r,ru,fun H' s => ⟨fun c => (by cases c),fun c => q H' s⟩⟩
 ·exact h.elim
theorem Qt : Av ["words","make"] ["words","make"] (Ar s_cap_under) := Ax
theorem Qu (F : Df K mg "cap_under" s_cap_under ["words","make"]) (T : Tx mg)  : Fn P w K mg base 1 "cap_under" ["words","make"] Gk := by
 refine F.fn Qt (fun vs H Q E h => ?_) (fun f cdv A outer s H vs Q E hr h => ?_)
 ·unfold Gk at h; split at h; rfl; exact h.elim
 refine ⟨_,(Aj (AU (AN (D8 K) Cr (cy 0) (by with_unfolding_all rfl)) (Am (As Ah)) AT) (Aj (AU (AN (D8 K) Cr (cy 0) (by with_unfolding_all rfl)) (Am (As (Aq FJ (cy 1) Ah))) AT) (Am (As (cy 1))))),?_⟩
 unfold Gk at h
 split at h
 ·rename_i a m
  obtain ⟨ws,ha,q⟩ := h
  refine ⟨a,_,rfl,.inl (An.of ha),rfl,FO,⟨fun c => ?_,fun c => ?_⟩⟩
  ·rw [if_neg (by decide),FN] at c
   have e : BC ws m = 0 := by unfold BC; rw [if_pos c]
   rw [e] at q
   exact q _ (Ab.refl _)
  ·rw [if_neg (by decide),FN] at c
   refine ⟨a,_,rfl,.inl (An.of ha),rfl,FO,⟨fun c2 => ?_,fun c2 => ?_⟩⟩
   ·rw [if_neg (by decide),HE] at c2
    have e : BC ws m = m / 2 := by unfold BC; rw [if_neg (by rw [c]; decide),if_pos c2]
    rw [e] at q
    exact ⟨⟨by decide,by decide⟩,q _ (Ab.refl _)⟩
   ·rw [if_neg (by decide),HE] at c2
    have e : BC ws m = m := by unfold BC; rw [if_neg (by rw [c]; decide),if_neg (by rw [c2]; decide)]
    rw [e] at q
    exact q _ (Ab.refl _)
 ·exact h.elim
theorem Qv : Av ["faults","boiler","hour"] ["faults","boiler","hour"] (Ar s_words_for) := Ax
theorem Qw (F : Df K mg "words_for" s_words_for ["faults","boiler","hour"]) (T : Tx mg)  : Fn P w K mg base 1 "words_for" ["faults","boiler","hour"] Gm := by
 refine F.fn Qv (fun vs H Q E h => ?_) (fun f cdv A outer s H vs Q E hr h => ?_)
 ·unfold Gm at h; split at h; rfl; exact h.elim
 refine ⟨_,(Am (As (A8 ["at","word","first","last","boiler","hour"] [none,none,none,none,some 1,some 2] rfl (BJ K (cy 0)) (AJ.of rfl) (fun _ _ _ _ => (AC K (n := 4) (Ag (Af 0 (AG (by rfl))) (Ag (Af 1 (AG (by rfl))) (Ag (Af 2 (AG (by rfl))) (Ag (Af 3 (AG (by rfl))) AB)))))) (fun _ _ _ _ => (D3 (PW.pt (DI (AN CG (cy 0) (cy 4) (AL _)) (DV (Nm Dl Dl (cy 2) (cy 5) (cy 3))))))) (fun _ _ _ _ => (cy 1))))),?_⟩
 unfold Gm at h
 split at h
 ·rename_i v b hr'
  obtain ⟨p,fs,r,hl,q⟩ := h
  obtain ⟨A,xs,rfl,hA,rs⟩ := Aa.shape r
  have ln := rs.len
  rw [List.length_map] at ln
  refine ⟨A,rfl,⟨xs,Ac.of hA⟩,BO (xs := xs) (fun i ys H' => Ab H H' /\ ys = (Bm (fs.take i) b hr').map wV) (by omega) ⟨Ab.refl _,rfl⟩ (fun i ys H' h => ?_) (fun i ys H' _ h => Ac.of (h.1 _ _ hA)) (fun i x ys H' hx h => ?_) fun ys H' h => ?_⟩
  ·rw [h.2,List.length_map]
   unfold Bm
   rw [List.length_map]
   exact Nat.le_trans (List.length_filter_le _ _) (by rw [List.length_take]; omega)
  ·obtain ⟨f,hf,rd⟩ := Ad.mapGot rs hx
   obtain ⟨l,zs,rfl,hl',rz⟩ := Aa.shape (Aa.ev (Ev.same h.1) _ _ rd)
   obtain ⟨y1,y2,y3,y4,rfl,r1,r2,r3,r4⟩ := Ad.four rz
   unfold Aa at r1 r2 r3 r4
   subst r1 r2 r3 r4
   have nx := JK (b := b) (h := hr') hf
   have no : BQ b hr' f = false -> Ab H H' /\ ys = (Bm (fs.take (i + 1)) b hr').map wV := fun e => ⟨h.1,by rw [nx,e,if_neg (by decide)]; exact h.2⟩
   refine ⟨l,_,rfl,Ac.of hl',rfl,_,_,rfl,_,_,rfl,_,_,rfl,_,_,rfl,rfl,⟨rfl,rfl,trivial⟩,rfl,⟨fun c1 => ⟨fun c2 => ⟨fun c3 => ?_,fun c3 => no ?_⟩,fun c2 => ⟨fun z => (by cases z),fun _ => no ?_⟩⟩,fun c1 => ⟨fun z => (by cases z),fun _ => no ?_⟩⟩⟩
   ·have e : BQ b hr' f = true := by
     rw [Cu] at c1
     unfold BQ; rw [c1,c2,c3]; rfl
    refine ⟨h.1,?_⟩
    rw [nx,if_pos e,List.map_append,h.2]; rfl
   ·unfold BQ; rw [c3,Bool.and_false]
   ·unfold BQ; rw [c2,Bool.and_false,Bool.false_and]
   ·rw [Cu] at c1
    unfold BQ; rw [c1,Bool.false_and,Bool.false_and]
  ·intro m hm
   refine q m _ (h.1.trans (Ab.new hm)) ?_
   rw [Ak,h.2,List.take_of_length_le (by omega)]
 ·exact h.elim
theorem Qx : Av ["boilers","faults","hour"] ["boilers","faults","hour"] (Ar s_caps_in) := Ax
theorem Qy (F : Df K mg "caps_in" s_caps_in ["boilers","faults","hour"]) (T : Tx mg) (D_cap_under : Fn P w K mg base 1 "cap_under" ["words","make"] Gk) (D_words_for : Fn P w K mg base 1 "words_for" ["faults","boiler","hour"] Gm) : Fn P w K mg base 2 "caps_in" ["boilers","faults","hour"] Gn := by
 refine F.fn Qx (fun vs H Q E h => ?_) (fun f cdv A outer s H vs Q E hr h => ?_)
 ·unfold Gn at h; split at h; rfl; exact h.elim
 refine ⟨_,(Am (As (By (B0 K) rfl T.b_tuple BP (Al (A8 ["at","make","coal","faults","hour"] [none,none,none,some 1,some 2] rfl (DL P w K rfl T.b_enumerate (Al (cy 0))) (AJ.of rfl) (fun _ _ _ _ => (AC K (n := 2) (Ag (Af 0 (AG (by rfl))) (Ag (AC K (n := 2) (Ag (Af 1 (AG (by rfl))) (Ag (Af 2 (AG (by rfl))) AB))) AB)))) (fun _ _ _ _ => AX) (fun _ _ _ _ => (Ai D_cap_under (hr.mono (by decide)) rfl (Ap (Ai D_words_for (hr.mono (by decide)) rfl (AD (cy 3) (cy 0) (cy 4))) (cy 1))))))))),?_⟩
 unfold Gn at h
 split at h
 ·rename_i v u hour
  obtain ⟨p,bs,fs,r,ru,lb,lf,q⟩ := h
  obtain ⟨A,xs,rfl,hA,rs⟩ := Aa.shape r
  have ln := rs.len
  rw [List.length_map] at ln
  refine ⟨A,rfl,⟨xs,Ac.of hA⟩,walk_enum (xs := xs) (fun i ys H' => Ab H H' /\ ys = ((Bs bs fs hour).take i).map V.int) (by omega) ⟨Ab.refl _,rfl⟩ (fun i ys H' h => by rw [h.2,List.length_map,List.length_take]; omega) (fun i ys H' h => Ac.of (h.1 _ _ hA)) (fun i x ys H' T hx h hT => ?_) fun ys H' h => ?_⟩
  ·obtain ⟨f,hf,rd⟩ := Ad.mapGot rs hx
   have s2 : Ab H (upd H' T (.tup [.int i,x])) := h.1.trans (Ab.new hT)
   obtain ⟨l,zs,rfl,hl',rz⟩ := Aa.shape (Aa.ev (Ev.same s2) _ _ rd)
   obtain ⟨y1,y2,rfl,r1,r2⟩ := Ad.two rz
   unfold Aa at r1 r2
   subst r1 r2
   refine ⟨T,_,rfl,Ac.of Ak,rfl,_,_,rfl,_,_,rfl,l,_,rfl,Ac.of hl',rfl,_,_,rfl,_,_,rfl,rfl,rfl,⟨rfl,rfl,trivial⟩,fun _ => ?_,fun z => by cases z⟩
   refine ⟨p,fs,Aa.ev (Ev.same s2) _ _ ru,lf,fun a H3 s3 ha => ⟨_,ha,fun H4 s4 => ⟨s2.trans (s3.trans s4),?_⟩⟩⟩
   rw [A3 (HC hf),List.map_append,h.2]; rfl
  ·intro m hm
   refine ⟨m,_,rfl,.inl ⟨An.of Ak,fun t ht => ?_⟩⟩
   refine q _ _ (h.1.trans ((Ab.new hm).trans (Ab.new ht))) (Aa.row ?_)
   rw [Ak,h.2,List.take_of_length_le (by rw [FM]; omega)]
 ·exact h.elim
theorem sc_caps_of : Av ["plant","story","extra","faults"] ["plant","story"] (Ar s_caps_of) := Ax
theorem Qz (F : Df K mg "caps_of" s_caps_of ["plant","story"]) (T : Tx mg) (D_caps_in : Fn P w K mg base 2 "caps_in" ["boilers","faults","hour"] Gn) (D_need_story : Fn P w K mg base 8 "need_story" ["plant","story"] E1) : Fn P w K mg base 9 "caps_of" ["plant","story"] E2 := by
 refine F.fn sc_caps_of (fun vs H Q E h => ?_) (fun f cdv A outer s H vs Q E hr h => ?_)
 ·unfold E2 at h; split at h; rfl; exact h.elim
 refine ⟨_,(Aj (Bo (Ai D_need_story (hr.mono (by decide)) rfl (Ap (cy 0) (cy 1)))) (Aj (AR (cy 1) (AC K (n := 2) (Ag (Af 2 sc_caps_of.nd) (Ag (Af 3 sc_caps_of.nd) AB)))) (Am (As (By (B0 K) rfl T.b_tuple BP (Al (A8 ["hour","faults","plant"] [none,some 3,some 0] rfl (BN rfl T.b_range (Al (AF (Bb K) rfl T.b_len PySem.boot_len (Al (cy 2))))) (AJ.of rfl) (fun _ _ _ _ => (Af 0 (AG (by rfl)))) (fun _ _ _ _ => AX) (fun _ _ _ _ => (Ai D_caps_in (hr.mono (by decide)) rfl (AD (Az (AK K) (cy 2) Ah (fun _ _ => rfl)) (cy 1) (cy 0))))))))))),?_⟩
 unfold E2 at h
 split at h
 ·rename_i v u
  obtain ⟨p,P,S,ok,so,r,ru,q⟩ := h
  refine ⟨p,P,S,ok,so,r,ru,fun H1 s1 => ?_⟩
  obtain ⟨A,B,E,xf,rfl,hA,hB,hE,rf⟩ := Aa.story (Aa.ev (Ev.same s1) _ _ ru)
  obtain ⟨PA,PB,PE,PM,xb,xe,rfl,pA,pB,rb,pE,re,pM⟩ := Aa.plant (Aa.ev (Ev.same s1) _ _ r)
  have x8 := so.x8
  have f4 := so.f4
  have b4 := ok.b4
  refine ⟨A,_,rfl,Ac.of hA,rfl,_,_,rfl,_,_,rfl,rfl,B,_,rfl,.inr (Ac.of hB),_,rfl,by omega,by rw [List.length_map]; omega,EI (n := (S.ex.map V.int).length) (fun i ys H' => Ab H1 H' /\ Ad p H' (((caps P S).take i).map AQ) ys) (by rw [List.length_map]; omega) ⟨Ab.refl _,.nil⟩ (fun i ys H' h => by rw [<- h.2.len,List.length_map,List.length_take]; omega) (fun i ys H' hi h => ?_) fun ys H' h => ?_⟩
  ·rw [List.length_map] at hi
   refine ⟨⟨rfl,rfl,trivial⟩,fun _ => ?_,fun z => by cases z⟩
   refine ⟨PA,_,0,.ref PB,rfl,rfl,Ac.of (h.1 _ _ pA),rfl,p,P.bs,S.fs,Aa.tup (h.1 _ _ pB) (Ad.ev (Ev.same h.1) _ _ rb),Aa.tup (h.1 _ _ hE) (Ad.ev (Ev.same h.1) _ _ rf),by omega,by omega,fun v2 H2 s2 r2 => ⟨h.1.trans s2,?_⟩⟩
   rw [Int.zero_add] at r2
   rw [A3 (Do hi),List.map_append]
   exact Ad.snoc (Ad.ev (Ev.same s2) _ _ h.2) r2
  ·intro m hm
   refine ⟨m,_,rfl,.inl ⟨An.of Ak,fun t ht => ?_⟩⟩
   have s3 := (Ab.new (o := .lst ys) hm).trans (Ab.new (o := .tup ys) ht)
   refine q _ _ (s1.trans (h.1.trans s3)) (Aa.tup Ak ?_)
   have r3 := Ad.ev (Ev.same s3) _ _ h.2
   rw [List.take_of_length_le (by rw [C0,List.length_map]; exact Nat.le_refl _)] at r3
   exact r3
 ·exact h.elim
theorem sc_drawn_by : Av ["engine","hour","draw","first","every"] ["engine","hour"] (Ar s_drawn_by) := Ax
theorem QA (F : Df K mg "drawn_by" s_drawn_by ["engine","hour"]) (T : Tx mg)  : Fn P w K mg base 1 "drawn_by" ["engine","hour"] Go := by
 refine F.fn sc_drawn_by (fun vs H Q E h => ?_) (fun f cdv A outer s H vs Q E hr h => ?_)
 ·unfold Go at h; split at h; rfl; exact h.elim
 refine ⟨_,(Aj (AR (cy 0) (AC K (n := 3) (Ag (Af 2 sc_drawn_by.nd) (Ag (Af 3 sc_drawn_by.nd) (Ag (Af 4 sc_drawn_by.nd) AB))))) (Aj (AU (PW.pt (EL (AN Cz (cy 1) (cy 3) (AL _)) (Ff (AN Fl (Aq D6 (Aq AY (cy 1) (cy 3)) (cy 4)) Ah (AL _))))) (Am (As Ah)) AT) (Am (As (cy 2))))),?_⟩
 unfold Go at h
 split at h
 ·rename_i v hour
  obtain ⟨p,e,r,e1,q⟩ := h
  obtain ⟨A,xs,rfl,hA,rs⟩ := Aa.shape r
  obtain ⟨y1,y2,y3,rfl,r1,r2,r3⟩ := Ad.three rs
  unfold Aa at r1 r2 r3
  subst r1 r2 r3
  refine ⟨A,_,rfl,Ac.of hA,rfl,_,_,rfl,_,_,rfl,_,_,rfl,rfl,⟨fun c => ⟨fun _ => ?_,fun z => by cases z⟩,fun c => ⟨by omega,rfl,⟨fun c2 => ?_,fun c2 => ?_⟩⟩⟩⟩
  ·have z : drawn e hour = 0 := by unfold drawn; rw [if_pos (.inl (of_decide_eq_true c))]
   rw [z] at q; exact q
  ·have z : drawn e hour = 0 := by
    unfold drawn; exact if_pos (.inr fun z => NP c2 (congrArg V.int z))
   rw [z] at q; exact q
  ·have z : drawn e hour = e.1 := by
    unfold drawn; rw [if_neg ?_]
    rintro (z | z)
    ·exact absurd (decide_eq_true z) (by rw [c]; decide)
    ·apply z
     have : V.int ((hour - e.2.1) % e.2.2) = V.int 0 := by simpa using c2
     injection this
   rw [z] at q; exact q
 ·exact h.elim
theorem sc_draws_of : Av ["plant","story","engines"] ["plant","story"] (Ar s_draws_of) := Ax
theorem QB (F : Df K mg "draws_of" s_draws_of ["plant","story"]) (T : Tx mg) (D_drawn_by : Fn P w K mg base 1 "drawn_by" ["engine","hour"] Go) (D_need_story : Fn P w K mg base 8 "need_story" ["plant","story"] E1) : Fn P w K mg base 9 "draws_of" ["plant","story"] Eo := by
 refine F.fn sc_draws_of (fun vs H Q E h => ?_) (fun f cdv A outer s H vs Q E hr h => ?_)
 ·unfold Eo at h; split at h; rfl; exact h.elim
 refine ⟨_,(Aj (Bo (Ai D_need_story (hr.mono (by decide)) rfl (Ap (cy 0) (cy 1)))) (Aj (AE (i := 2) sc_draws_of.nd rfl (Aw (by rfl)) (Az (AK K) (cy 0) Ah (fun _ _ => rfl))) (Am (As (By (B0 K) rfl T.b_tuple BP (Al (A8 ["hour","units","engines"] [none,none,some 2] rfl (DL P w K rfl T.b_enumerate (Al (Az (AK K) (cy 1) Ah (fun _ _ => rfl)))) (AJ.of rfl) (fun _ _ _ _ => (AC K (n := 2) (Ag (Af 0 (AG (by rfl))) (Ag (Af 1 (AG (by rfl))) AB)))) (fun _ _ _ _ => AX) (fun _ _ _ _ => (Aq AV (cy 1) (AF (EQ rfl) rfl T.b_sum boot_sum (Al (A8 ["engine","hour"] [none,some 0] rfl (BJ K (cy 2)) (AJ.of rfl) (fun _ _ _ _ => (Af 0 (AG (by rfl)))) (fun _ _ _ _ => AX) (fun _ _ _ _ => (Ai D_drawn_by (hr.mono (by decide)) rfl (Ap (cy 0) (cy 1)))))))))))))))),?_⟩
 unfold Eo at h
 split at h
 ·rename_i v u
  obtain ⟨p,P,S,ok,so,r,ru,q⟩ := h
  refine ⟨p,P,S,ok,so,r,ru,fun H1 s1 => ?_⟩
  obtain ⟨A,B,E,xf,rfl,hA,hB,hE,rf⟩ := Aa.story (Aa.ev (Ev.same s1) _ _ ru)
  obtain ⟨PA,PB,PE,PM,xb,xe,rfl,pA,pB,rb,pE,re,pM⟩ := Aa.plant (Aa.ev (Ev.same s1) _ _ r)
  have x8 := so.x8
  have e4 := ok.e4
  have le := re.len
  rw [List.length_map] at le
  refine ⟨PA,_,1,.ref PE,rfl,rfl,Ac.of pA,rfl,A,_,0,.ref B,rfl,rfl,Ac.of hA,rfl,B,rfl,⟨_,Ac.of hB⟩,walk_enum (xs := S.ex.map V.int) (fun i ys H' => Ab H1 H' /\ ys = ((draws P S).take i).map V.int) (by rw [List.length_map]; omega) ⟨Ab.refl _,rfl⟩ (fun i ys H' h => by rw [h.2,List.length_map,List.length_take]; omega) (fun i ys H' h => Ac.of (h.1 _ _ hB)) (fun i x ys H' T hx h hT => ?_) fun ys H' h => ?_⟩
  ·rw [List.getElem?_map] at hx
   cases z : S.ex[i]? with
   | none => rw [z] at hx; cases hx
   | some n =>
    rw [z] at hx
    cases hx
    have s2 : Ab H1 (upd H' T (.tup [.int i,.int n])) := h.1.trans (Ab.new hT)
    refine ⟨T,_,rfl,Ac.of Ak,rfl,_,_,rfl,_,_,rfl,rfl,⟨rfl,trivial⟩,fun _ => ?_,fun z => by cases z⟩
    refine ⟨PE,rfl,⟨xe,Ac.of (s2 _ _ pE)⟩,BO (xs := xe) (fun j zs H2 => Ab H1 H2 /\ zs = ((P.es.take j).map fun e => drawn e i).map V.int) (by omega) ⟨s2,rfl⟩ (fun j zs H2 h => by rw [h.2,List.length_map,List.length_map,List.length_take]; omega) (fun j zs H2 _ h => Ac.of (h.1 _ _ pE)) (fun j x zs H2 hx h2 => ?_) fun zs H2 h2 => ?_⟩
    ·obtain ⟨f,hf,rd⟩ := Ad.mapGot re hx
     refine ⟨⟨rfl,trivial⟩,fun _ => ⟨p,f,Aa.ev (Ev.same h2.1) _ _ rd,(ok.e f (List.mem_of_getElem? hf)).2.2.2.2.1,h2.1,?_⟩,fun z => by cases z⟩
     rw [A3 hf,List.map_append,List.map_append,h2.2]; rfl
    ·intro m hm
     refine ⟨m,P.es.map fun e => drawn e i,rfl,?_,h2.1.trans (Ab.new hm),?_⟩
     ·rw [Ak,h2.2,List.take_of_length_le (by omega)]
     ·rw [A3 (HD z),List.map_append,h.2]; rfl
  ·intro m hm
   refine ⟨m,_,rfl,.inl ⟨An.of Ak,fun t ht => ?_⟩⟩
   refine q _ _ (s1.trans (h.1.trans ((Ab.new hm).trans (Ab.new ht)))) (Aa.row ?_)
   rw [Ak,h.2,List.take_of_length_le (by rw [draws_len,List.length_map]; omega)]
 ·exact h.elim
end
end MF
end
section
namespace MF
open PySem PySem.Spec PyProof.Rows L2
theorem KY : ∀ {bs : List PyData},(∀ d ∈ bs,GoodB d) -> ∃ l : List (Int × Int),bs = l.map bD /\ ∀ q ∈ l,1 <= q.1 /\ q.1 <= 9 /\ 1 <= q.2 /\ q.2 <= 9
 | [],_ => ⟨[],rfl,fun _ h => nomatch h⟩
 | d :: ds,h => by
  obtain ⟨l,e,g⟩ := KY fun x hx => h x (List.mem_cons_of_mem _ hx)
  obtain ⟨m,c,rfl,a1,a2,a3,a4⟩ := h d List.mem_cons_self
  refine ⟨(m,c) :: l,by rw [e]; rfl,fun q hq => ?_⟩
  rcases List.mem_cons.mp hq with rfl | hq
  ·exact ⟨a1,a2,a3,a4⟩
  ·exact g q hq
theorem KZ : ∀ {es : List PyData},(∀ d ∈ es,GoodE d) -> ∃ l : List (Int × Int × Int),es = l.map eD /\ ∀ q ∈ l,1 <= q.1 /\ q.1 <= 9 /\ 0 <= q.2.1 /\ q.2.1 <= 7 /\ 1 <= q.2.2 /\ q.2.2 <= 8
 | [],_ => ⟨[],rfl,fun _ h => nomatch h⟩
 | d :: ds,h => by
  obtain ⟨l,e,g⟩ := KZ fun x hx => h x (List.mem_cons_of_mem _ hx)
  obtain ⟨m,c,k,rfl,a1,a2,a3,a4,a5,a6⟩ := h d List.mem_cons_self
  refine ⟨(m,c,k) :: l,by rw [e]; rfl,fun q hq => ?_⟩
  rcases List.mem_cons.mp hq with rfl | hq
  ·exact ⟨a1,a2,a3,a4,a5,a6⟩
  ·exact g q hq
theorem GoodP.pl {bs es : List PyData} {lo hi st : Int} (g : GoodP bs es lo hi st) : ∃ P : PL,P.ok /\ KW bs es lo hi st = P.d := by
 obtain ⟨lb,rfl,hb⟩ := KY g.b
 obtain ⟨le,rfl,he⟩ := KZ g.e
 have b1 := g.b1
 have b4 := g.b4
 have e4 := g.e4
 rw [List.length_map] at b1 b4 e4
 exact ⟨⟨lb,le,lo,hi,st⟩,⟨hb,b1,b4,he,e4,g.lo0,g.ls,g.sh,g.h4⟩,rfl⟩
theorem K0 (r : List Int) : Ce (AQ r) = true := by
 unfold Ce
 exact EZ fun d hd => by
  obtain ⟨i,_,rfl⟩ := List.mem_map.mp hd
  rfl
theorem QC (k : Bool) : 0 < (1 : Int) + (if k = true then 1 else 0) /\ (1 : Int) + (if k = true then 1 else 0) < 1073741824 := by cases k <;> decide
def GoodF (n h : Nat) (d : PyData) : Prop := ∃ x : FT,d = x.d /\ x.ok n h
theorem GoodF.nm {n h : Nat} {d : PyData} (g : GoodF n h d) : Ce d = true := by obtain ⟨x,rfl,_⟩ := g; rfl
theorem K1 {n h : Nat} : ∀ {es : List PyData},(∀ d ∈ es,GoodF n h d) -> ∃ l : List FT,es = l.map FT.d /\ ∀ q ∈ l,q.ok n h
 | [],_ => ⟨[],rfl,fun _ h => nomatch h⟩
 | d :: ds,hh => by
  obtain ⟨l,e,g⟩ := K1 fun x hx => hh x (List.mem_cons_of_mem _ hx)
  obtain ⟨x,rfl,a1⟩ := hh d List.mem_cons_self
  refine ⟨x :: l,by rw [e]; rfl,fun q hq => ?_⟩
  rcases List.mem_cons.mp hq with rfl | hq
  ·exact a1
  ·exact g q hq
def Gp : Sp := fun vs H Q _ => match vs with | [.ref p,v,.int m] => Bd p H /\ 1 <= m /\ m <= 8 /\ ∃ P,PL.ok P /\ Aa p H P.d v /\ ∀ u H' S,SY.ok S P.bs.length -> Aa p H' S.d u -> Ev p H H' -> Bd p H' -> Q u H' | _ => False
def Gq : Sp := fun vs H Q _ => match vs with | [v,u] => ∃ p P S,PL.ok P /\ SY.ok S P.bs.length /\ Aa p H P.d v /\ Aa p H S.d u /\ ret H Q p (FL P S) | _ => False
def Gs : Sp := fun vs H Q _ => match vs with | [v,u] => ∃ p P S,PL.ok P /\ SY.ok S P.bs.length /\ Aa p H P.d v /\ Aa p H S.d u /\ ret H Q p (HB P S) | _ => False
section
variable {P : Program} {w : World} {K : PySem.W.Frag} {mg : Str -> Option Value} {base : Heap}
theorem sc__law_story : Av ["_law_pen_here","_law_plant_here","_law_most","_law_hours","_law_total","_law_wide","_law_extra","_law_faults","_law_turn","_law_first","_law_last"] ["_law_pen_here","_law_plant_here","_law_most"] (Ar s__law_story) := Ax
theorem QD (F : Df K mg "_law_story" s__law_story ["_law_pen_here","_law_plant_here","_law_most"]) (T : Tx mg) (D__law_draw : Fn P w K mg base 1 "_law_draw" ["_law_pen_here","_law_many"] EY) : Fn P w K mg base 2 "_law_story" ["_law_pen_here","_law_plant_here","_law_most"] Gp := by
 refine F.fn sc__law_story (fun vs H Q E h => ?_) (fun f cdv A outer s H vs Q E hr h => ?_)
 ·unfold Gp at h; split at h; rfl; exact h.elim
 refine ⟨_,(Aj (IA (i := 3) (j := 4) rfl sc__law_story.nd rfl rfl (by decide) rfl rfl (Ap (Aq AV Ah (Ai D__law_draw (hr.mono (by decide)) rfl (Ap (cy 0) (cy 2)))) (AF (EQ rfl) rfl T.b_sum boot_sum (Al (A8 ["_law_make","_law_coal"] [none,none] rfl (BJ K (Az (AK K) (cy 1) Ah (fun _ _ => rfl))) (AJ.of rfl) (fun _ _ _ _ => (AC K (n := 2) (Ag (Af 0 (AG (by rfl))) (Ag (Af 1 (AG (by rfl))) AB)))) (fun _ _ _ _ => AX) (fun _ _ _ _ => (cy 0)))))) (by rfl)) (Aj (AE (i := 5) sc__law_story.nd rfl (Aw (by rfl)) (Az (Bk K) (BB (Bl Ah (Aq AV Ah (Aq FJ (cy 4) Ah)) (Aq AV Ah (cy 4)) Ah)) (Ai D__law_draw (hr.mono (by decide)) rfl (Ap (cy 0) Ah)) (fun _ _ => rfl))) (Aj (AE (i := 6) sc__law_story.nd rfl (Aw (by rfl)) (By (B0 K) rfl T.b_tuple BP (Al (A8 ["_law_hour","_law_pen_here","_law_wide"] [none,some 0,some 5] rfl (BN rfl T.b_range (Al (cy 3))) (AJ.of rfl) (fun _ _ _ _ => (Af 0 (AG (by rfl)))) (fun _ _ _ _ => AX) (fun _ _ _ _ => (Ai D__law_draw (hr.mono (by decide)) rfl (Ap (cy 1) (AF (Hd rfl) rfl T.b_min boot_min (Ap Ah (cy 2)))))))))) (Aj (AE (i := 7) sc__law_story.nd rfl (Aw (by rfl)) (BB Ch)) (Aj (BG PassesOwn.never rfl (BN rfl T.b_range (Al (Az (Bk K) (BB (Bl Ah Ah Ah (Ai D__law_draw (hr.mono (by decide)) rfl (Ap (cy 0) Ah)))) (Ai D__law_draw (hr.mono (by decide)) rfl (Ap (cy 0) Ah)) (fun _ _ => rfl)))) (Af 8 sc__law_story.nd) (Aj (AE (i := 9) sc__law_story.nd rfl (Aw (by rfl)) (Ai D__law_draw (hr.mono (by decide)) rfl (Ap (cy 0) (cy 3)))) (Aj (AE (i := 10) sc__law_story.nd rfl (Aw (by rfl)) (Aq AV (cy 9) (Ai D__law_draw (hr.mono (by decide)) rfl (Ap (cy 0) (Aq AY (cy 3) (cy 9)))))) (Am (Bo (Dj PySem.F.plainAttrs_list PySem.F.slot_list_append PySem.F.type_list_append Dk (cy 7) (Al (AZ (Bl (Ai D__law_draw (hr.mono (by decide)) rfl (Ap (cy 0) (AF (Bb K) rfl T.b_len PySem.boot_len (Al (Az (AK K) (cy 1) Ah (fun _ _ => rfl)))))) (Az (Bk K) (BB (Ap Cr Cr)) (Ai D__law_draw (hr.mono (by decide)) rfl (Ap (cy 0) Ah)) (fun _ _ => rfl)) (cy 9) (cy 10)))))))))) (Am (As (AZ (Ap (cy 6) (By (B0 K) rfl T.b_tuple BP (Al (cy 7)))))))))))),?_⟩
 unfold Gp at h
 split at h
 ·rename_i p v m
  obtain ⟨pn,m1,m8,P,ok,r,q⟩ := h
  have b1 := ok.b1
  have b4 := ok.b4
  refine ⟨pn,by omega,by omega,fun g1 H1 a1 c1 e1 pn1 => ?_⟩
  obtain ⟨PA,PB,PE,PM,xb,xe,rfl,pA,pB,rb,pE,re,pM⟩ := Aa.plant (Aa.ev e1 _ _ r)
  have lb := rb.len
  rw [List.length_map] at lb
  refine ⟨PA,_,0,.ref PB,rfl,rfl,Ac.of pA,rfl,PB,rfl,⟨xb,Ac.of pB⟩,BO (xs := xb) (fun i ys H' => Ab H1 H' /\ ys = ((P.bs.map (·.1)).take i).map V.int) (by omega) ⟨Ab.refl _,rfl⟩ (fun i ys H' h => by rw [h.2,List.length_map,List.length_take]; omega) (fun i ys H' _ h => Ac.of (h.1 _ _ pB)) (fun i x ys H' hx h => ?_) fun ys H2 h => ?_⟩
  ·obtain ⟨f,hf,rd⟩ := Ad.mapGot rb hx
   obtain ⟨l,zs,rfl,hl',rz⟩ := Aa.shape (Aa.ev (Ev.same h.1) _ _ rd)
   obtain ⟨y1,y2,rfl,r1,r2⟩ := Ad.two rz
   unfold Aa at r1 r2
   subst r1 r2
   refine ⟨l,_,rfl,Ac.of hl',rfl,_,_,rfl,_,_,rfl,rfl,trivial,fun _ => ⟨h.1,?_⟩,fun z => by cases z⟩
   have hf' : (P.bs.map (·.1))[i]? = some f.1 := by rw [List.getElem?_map,hf]; rfl
   rw [A3 hf',List.map_append,h.2]; rfl
  intro lm hlm
  have eT : 0 <= (P.bs.map (·.1)).sum /\ (P.bs.map (·.1)).sum <= 9 * (P.bs.map (·.1)).length := JL fun i hi => by
   obtain ⟨qq,hqq,rfl⟩ := List.mem_map.mp hi
   have := ok.b qq hqq
   omega
  rw [List.length_map] at eT
  have n1 := Ab.new (o := .lst ys) hlm
  refine ⟨lm,P.bs.map (·.1),rfl,?_,_,_,rfl,⟨by decide,by decide⟩,fun l1 hl1 => ?_⟩
  ·rw [Ak,h.2,List.take_of_length_le (by rw [List.length_map]; omega)]
  have e2 : Ev p H (upd H2 lm (.lst ys)) := e1.trans (Ev.same (h.1.trans n1))
  have pn2 : Bd p (upd H2 lm (.lst ys)) := pn1.same (h.1.trans n1)
  generalize upd H2 lm (.lst ys) = H3 at hl1 e2 pn2 ⊢
  generalize (P.bs.map (·.1)).sum = T at eT
  refine ⟨pn2.new hl1,by decide,by decide,fun g2 H4 a4 c4 e4 pn4 => ?_⟩
  obtain ⟨wd,hwd,hat⟩ := Dx (ns := [1,1 + T / 2,1 + T,21]) a4 (by simpa using c4)
  have hwd' : wd = 1 \/ wd = 1 + T / 2 \/ wd = 1 + T \/ wd = 21 := by simpa using hwd
  have w1 : 1 <= wd := by omega
  refine ⟨l1,_,g2,.int wd,rfl,rfl,An.of (e4.lst Ak (pn2.ne hl1)),hat,?_⟩
  have eA : Ev p H H4 := e2.trans ((Ev.new hl1).trans e4)
  refine ⟨_,rfl,by omega,by omega,EI (n := (1 + g1).toNat) (fun i ys H5 => Ev p H4 H5 /\ Bd p H5 /\ ∃ ns : List Int,ys = ns.map V.int /\ ns.length = i /\ ∀ u ∈ ns,0 <= u /\ u <= 20) (by omega) ⟨Ev.refl,pn4,[],rfl,rfl,(fun _ h => nomatch h)⟩ (fun i ys H5 h => ?_) (fun i ys H5 hi h => ?_) fun ys H5 h => ?_⟩
  ·obtain ⟨_,_,ns,rfl,hn,_⟩ := h
   rw [List.length_map]; omega
  ·obtain ⟨e5,pn5,ns,rfl,hn,hu⟩ := h
   refine ⟨⟨rfl,rfl,trivial⟩,fun _ => ⟨21,wd,rfl,pn5,by split <;> omega,by split <;> omega,fun g6 H6 a6 c6 e6 pn6 => ⟨e5.trans e6,pn6,ns ++ [g6],by rw [List.map_append]; rfl,by rw [List.length_append,hn]; rfl,fun u hu' => ?_⟩⟩,fun z => by cases z⟩
   rcases List.mem_append.mp hu' with h | h
   ·exact hu u h
   ·rw [List.mem_singleton.mp h]
    have : (if wd < 21 then wd else 21) <= 21 := by split <;> omega
    omega
  obtain ⟨e5,pn5,ns,rfl,hn,hu⟩ := h
  intro l2 hl2
  refine ⟨l2,_,rfl,.inl ⟨An.of Ak,fun t1 ht1 b hb => ?_⟩⟩
  have n2 := Ab.new (o := .lst (ns.map V.int)) hl2
  have n3 := Ab.new (o := .tup (ns.map V.int)) ht1
  have kt := Ak (H := upd H5 l2 (.lst (ns.map V.int))) (a := t1) (o := .tup (ns.map V.int))
  have e6 : Ev p H (upd (upd H5 l2 (.lst (ns.map V.int))) t1 (.tup (ns.map V.int))) := (eA.trans e5).trans (Ev.same (n2.trans n3))
  have pn6 := pn5.same (n2.trans n3)
  generalize upd (upd H5 l2 (.lst (ns.map V.int))) t1 (.tup (ns.map V.int)) = H6 at hb kt e6 pn6 n3 ⊢
  have nb : b ≠ p := pn6.ne hb
  have hbH : H b = none := by
   cases z : H b with
   | none => rfl
   | some o => exact ((e6 b o z).elim (fun ⟨x,_⟩ => absurd x nb) fun x => by rw [x] at hb; cases hb)
  refine ⟨pn6.new hb,by decide,by decide,fun g7 H7 a7 c7 e7 pn7 l3 hl3 => ⟨pn7.new hl3,by decide,by decide,fun g8 H8 a8 c8 e8 pn8 => ?_⟩⟩
  obtain ⟨tn,htn,hat3⟩ := Dx (ns := [0,0,1,g7]) a8 (by simpa using c8)
  have htn' : tn = 0 \/ tn = 0 \/ tn = 1 \/ tn = g7 := by simpa using htn
  have e68 : Ev p (upd H6 b (.lst [])) H8 := e7.trans ((Ev.new hl3).trans e8)
  refine ⟨l3,_,g8,.int tn,rfl,rfl,An.of (e8.lst Ak (pn7.ne hl3)),hat3,tn,rfl,by omega,by omega,Cg (n := tn.toNat) (fun i σ H9 => ∃ t f l,σ = [some (.ref p),some (.ref PA),some (.int m),some (.int (1 + g1)),some (.int T),some (.int wd),some (.ref t1),some (.ref b),t,f,l] /\ Ev p H6 (upd H9 b (.lst [])) /\ Filled (GoodF P.bs.length (1 + g1).toNat) p b H H9 i)
   ⟨_,_,_,rfl,?_,(e6.trans (Ev.new hb)).trans e68,pn8,[],[],e68.lst Ak nb,.nil,(fun _ h => nomatch h),rfl⟩ (fun i σ H9 hi hP => ?_) fun σ H9 hP => ?_⟩
  ·exact ((Ev.new hb).trans e68).own hb
  ·obtain ⟨t,f,l,rfl,ev6,ev,pn4',xs,ds,hx,rs,gd,hl⟩ := hP
   refine ⟨pn4',by omega,by omega,fun f1 K5 a5 c5 e5' pn5' => ⟨pn5',by omega,by omega,fun f2 K6 a6 c6 e6' pn6' => ?_⟩⟩
   have e46 : Ev p H9 K6 := e5'.trans e6'
   obtain ⟨PA',PB',PE',PM',xb',xe',ePA,pA',pB',rb',pE',re',pM'⟩ := Aa.plant (Aa.ev (ev.trans e46) _ _ r)
   cases ePA
   have lb' := rb'.len
   rw [List.length_map] at lb'
   refine ⟨.inl ⟨rfl,_,An.of (e46.lst hx nb)⟩,PA,_,0,.ref PB',rfl,rfl,Ac.of pA',rfl,PB',xb',rfl,.inr (Ac.of pB'),pn6',by omega,by omega,fun f3 K7 a7' c7' e7' pn7' l2' hl2' => ⟨pn7'.new hl2',by decide,by decide,fun g4 K8 a8' c8' e8' pn8' => ?_⟩⟩
   have hw : ∃ bb : Bool,Ci [V.str "out",.str "scaled"] g4 = some (wV bb) := by
    have : g4 = 0 \/ g4 = 1 := by omega
    rcases this with rfl | rfl
    ·exact ⟨true,rfl⟩
    ·exact ⟨false,rfl⟩
   obtain ⟨bb,hw⟩ := hw
   refine ⟨l2',_,g4,wV bb,rfl,rfl,An.of (e8'.lst Ak (pn7'.ne hl2')),hw,fun t1' ht1' => ?_⟩
   have e48 : Ev p H9 K8 := e46.trans (e7'.trans ((Ev.new hl2').trans e8'))
   have hb8 := e48.lst hx nb
   refine ⟨b,xs,.ref t1',rfl,rfl,by rw [Au (A6 hb8 ht1')]; exact hb8,Da (by rw [<- rs.len,hl]; omega),_,_,_,rfl,?_,?_⟩
   ·intro c o hc
    by_cases z : c = b
    ·subst z; rw [hb] at hc; cases hc
    ·rcases ev6 c o hc with w' | w'
     ·exact .inl w'
     ·rw [Au z] at w'
      rcases (e48.trans (Ev.new (o := .tup [.int f3,wV bb,.int f1,.int (f1 + f2)]) ht1')) c o w' with w'' | w''
      ·exact .inl w''
      ·right
       rw [Au z,Au z]
       exact w''
   ·exact Filled.step (fun d h => h.nm) hx rs gd hl e48 nb hbH (ev.trans e48) pn8' ht1' (Aa.tup Ak (.cons Aa.int (.cons Aa.str (.cons Aa.int (.cons Aa.int .nil))))) ⟨⟨f3,bb,f1,f1 + f2⟩,rfl,⟨a7',by show f3 < _; omega,a5,by show f1 <= f1 + f2; omega,by show f1 + f2 < _; omega⟩⟩
  ·obtain ⟨t,f,l,rfl,ev6,fb⟩ := hP
   have kt9 : H9 t1 = some (.tup (ns.map V.int)) := by
    have z := ev6.tup kt
    rw [Au (A6 kt hb)] at z
    exact z
   obtain ⟨xs,fs,hb5,rb5,gf,lf⟩ := fb.done nb Ev.refl
   refine ⟨b,xs,rfl,.inl ⟨An.of hb5,fun t2 ht2 t3 ht3 => ?_⟩⟩
   obtain ⟨lF,rfl,gl⟩ := K1 gf
   rw [List.length_map] at lf
   have s5 := (Ab.new (o := .tup xs) ht2).trans (Ab.new (o := .tup [.ref t1,.ref t2]) ht3)
   refine q _ _ ⟨ns,lF⟩ ⟨by show 1 <= ns.length; omega,by show ns.length <= 8; omega,hu,by show lF.length <= 4; omega,fun x hx => ?_⟩ ?_ (fb.ev.trans (Ev.same s5)) (fb.pen.same s5)
   ·show x.ok _ ns.length
    rw [hn]; exact gl x hx
   ·exact Aa.tup Ak (.cons (Aa.row (s5 _ _ kt9)) (.cons (Aa.tup ((Ab.new ht3) _ _ Ak) (Ad.ev (Ev.same s5) _ _ rb5)) .nil))
 ·exact h.elim
theorem sc__law_caps : Av ["_law_plant_here","_law_story_here","_law_rows","_law_hour","_law_row","_law_boiler","_law_make","_law_coal","_law_words"] ["_law_plant_here","_law_story_here"] (Ar s__law_caps) := Ax
theorem QE (F : Df K mg "_law_caps" s__law_caps ["_law_plant_here","_law_story_here"]) (T : Tx mg)  : Fn P w K mg base 1 "_law_caps" ["_law_plant_here","_law_story_here"] Gq := by
 refine F.fn sc__law_caps (fun vs H Q E h => ?_) (fun f cdv A outer s H vs Q E hr h => ?_)
 ·unfold Gq at h; split at h; rfl; exact h.elim
 refine ⟨_,(Aj (AE (i := 2) sc__law_caps.nd rfl (Aw (by rfl)) (BB Ch)) (Aj (BG PassesOwn.never rfl (BN rfl T.b_range (Al (AF (Bb K) rfl T.b_len PySem.boot_len (Al (Az (AK K) (cy 1) Ah (fun _ _ => rfl)))))) (Af 3 sc__law_caps.nd) (Aj (AE (i := 4) sc__law_caps.nd rfl (Aw (by rfl)) (BB Ch)) (Aj (BG PassesOwn.never rfl (DL P w K rfl T.b_enumerate (Al (Az (AK K) (cy 0) Ah (fun _ _ => rfl)))) (AC K (n := 2) (Ag (Af 5 sc__law_caps.nd) (Ag (AC K (n := 2) (Ag (Af 6 sc__law_caps.nd) (Ag (Af 7 sc__law_caps.nd) AB))) AB))) (Aj (EH (i := 8) ["_law_one","_law_word","_law_first","_law_last","_law_boiler","_law_hour"] [none,none,none,none,some 5,some 3] sc__law_caps.nd rfl (Aw (by rfl)) rfl (BJ K (Az (AK K) (cy 1) Ah (fun _ _ => rfl))) (AJ.of rfl) (fun _ _ _ _ => (AC K (n := 4) (Ag (Af 0 (AG (by rfl))) (Ag (Af 1 (AG (by rfl))) (Ag (Af 2 (AG (by rfl))) (Ag (Af 3 (AG (by rfl))) AB)))))) (fun _ _ _ _ => (D3 (PW.pt (DI (AN CG (cy 0) (cy 4) (AL _)) (DI (AN Dl (cy 2) (cy 5) (AL _)) (DV (AN Dl (cy 5) (cy 3) (AL _)))))))) (fun _ _ _ _ => (cy 1))) (Am (Bo (Dj PySem.F.plainAttrs_list PySem.F.slot_list_append PySem.F.type_list_append Dk (cy 4) (Al (EM (AN (D8 K) Cr (cy 8) (by with_unfolding_all rfl)) Ah (Aq FJ (cy 6) (Aq AV Ah (By He rfl T.b_int L2.boot_int (Al (Cv (D8 K) Cr (cy 8) (by with_unfolding_all rfl))))))))))))) (Am (Bo (Dj PySem.F.plainAttrs_list PySem.F.slot_list_append PySem.F.type_list_append Dk (cy 2) (Al (By (B0 K) rfl T.b_tuple BP (Al (cy 4)))))))))) (Am (As (By (B0 K) rfl T.b_tuple BP (Al (cy 2))))))),?_⟩
 unfold Gq at h
 split at h
 ·rename_i v u
  obtain ⟨p,P,S,ok,so,r,ru,q⟩ := h
  obtain ⟨A,B,E,xf,rfl,hA,hB,hE,rf⟩ := Aa.story ru
  obtain ⟨PA,PB,PE,PM,xb,xe,rfl,pA,pB,rb,pE,re,pM⟩ := Aa.plant r
  have x8 := so.x8
  have f4 := so.f4
  have b4 := ok.b4
  have lb := rb.len
  rw [List.length_map] at lb
  have lf := rf.len
  rw [List.length_map] at lf
  intro R hR
  have s0 : Ab H (upd H R (.lst [])) := Ab.new hR
  refine ⟨A,_,0,.ref B,rfl,rfl,Ac.of (s0 _ _ hA),rfl,B,_,rfl,.inr (Ac.of (s0 _ _ hB)),_,rfl,by omega,by rw [List.length_map]; omega,Cg (n := (S.ex.map V.int).length) (fun i σ H1 => (∃ x3 x4 x5 x6 x7 x8,σ = [some (.ref PA),some (.ref A),some (.ref R),x3,x4,x5,x6,x7,x8]) /\ Ab H H1 /\ ∃ xs,H1 R = some (.lst xs) /\ Ad p H1 (((caps P S).take i).map AQ) xs)
   ⟨⟨_,_,_,_,_,_,rfl⟩,s0,[],Ak,.nil⟩ (fun i σ H1 hi hP => ?_) fun σ H1 hP => ?_⟩
  ·obtain ⟨⟨x3,x4,x5,x6,x7,x8',rfl⟩,s1,xs,hxs,rxs⟩ := hP
   rw [List.length_map] at hi
   have lx := rxs.len
   rw [List.length_map,List.length_take] at lx
   intro b hb
   have sb : Ab H1 (upd H1 b (.lst [])) := Ab.new hb
   refine ⟨PA,_,0,.ref PB,rfl,rfl,Ac.of (sb _ _ (s1 _ _ pA)),rfl,PB,rfl,⟨xb,Ac.of (sb _ _ (s1 _ _ pB))⟩,for_enum (xs := xb) (fun j σ H2 => (∃ y5 y6 y7 y8,σ = [some (.ref PA),some (.ref A),some (.ref R),some (.int (0 + i)),some (.ref b),y5,y6,y7,y8]) /\ Ab H1 H2 /\ H2 b = some (.lst (((Bs P.bs S.fs i).take j).map V.int)))
    ⟨⟨_,_,_,_,rfl⟩,sb,Ak⟩ (fun j σ H2 h => Ac.of (h.2.1 _ _ (s1 _ _ pB))) (fun j x σ H2 T hx h hT => ?_) fun σ H2 h => ?_⟩
   ·obtain ⟨⟨y5,y6,y7,y8,rfl⟩,s2,hb2⟩ := h
    obtain ⟨f,hf,rd⟩ := Ad.mapGot rb hx
    have hj : j < xb.length := (List.getElem?_eq_some_iff.mp hx).1
    have s3 : Ab H1 (upd H2 T (.tup [.int j,x])) := s2.trans (Ab.new hT)
    have s03 : Ab H (upd H2 T (.tup [.int j,x])) := s1.trans s3
    obtain ⟨l,zs,rfl,hl',rz⟩ := Aa.shape (Aa.ev (Ev.same s03) _ _ rd)
    obtain ⟨z1,z2,rfl,r1,r2⟩ := Ad.two rz
    unfold Aa at r1 r2
    subst r1 r2
    refine ⟨T,_,rfl,Ac.of Ak,rfl,_,_,rfl,_,_,rfl,l,_,rfl,Ac.of hl',rfl,_,_,rfl,_,_,rfl,rfl,rfl,?_⟩
    refine ⟨A,_,1,.ref E,rfl,rfl,Ac.of (s03 _ _ hA),rfl,E,rfl,⟨xf,Ac.of (s03 _ _ hE)⟩,BO (xs := xf) (fun k ys H3 => Ab (upd H2 T (.tup [.int j,.ref l])) H3 /\ ys = (Bm (S.fs.take k) j i).map wV) (by omega) ⟨Ab.refl _,rfl⟩ (fun k ys H' h => ?_) (fun k ys H' _ h => Ac.of (h.1 _ _ (s03 _ _ hE))) (fun k x ys H' hx h => ?_) fun ys H3 h => ?_⟩
    ·rw [h.2,List.length_map]
     unfold Bm
     rw [List.length_map]
     exact Nat.le_trans (List.length_filter_le _ _) (by rw [List.length_take]; omega)
    ·obtain ⟨g,hg,rg⟩ := Ad.mapGot rf hx
     obtain ⟨l2,zs2,rfl,hl2,rz2⟩ := Aa.shape (Aa.ev (Ev.same (s03.trans h.1)) _ _ rg)
     obtain ⟨w1,w2,w3,w4,rfl,r1,r2,r3,r4⟩ := Ad.four rz2
     unfold Aa at r1 r2 r3 r4
     subst r1 r2 r3 r4
     have nx := JK (b := j) (h := i) hg
     have no : BQ j i g = false -> Ab (upd H2 T (.tup [.int j,.ref l])) H' /\ ys = (Bm (S.fs.take (k + 1)) j i).map wV := fun e => ⟨h.1,by rw [nx,e,if_neg (by decide)]; exact h.2⟩
     refine ⟨l2,_,rfl,Ac.of hl2,rfl,_,_,rfl,_,_,rfl,_,_,rfl,_,_,rfl,rfl,⟨rfl,rfl,trivial⟩,rfl,⟨fun c1 => ⟨fun c2 => ⟨fun c3 => ?_,fun c3 => no ?_⟩,fun c2 => ⟨fun z => (by cases z),fun _ => no ?_⟩⟩,fun c1 => ⟨fun z => (by cases z),fun _ => no ?_⟩⟩⟩
     ·have e : BQ j i g = true := by
       rw [Cu] at c1
       rw [Int.zero_add] at c2 c3
       unfold BQ; rw [c1,c2,c3]; rfl
      refine ⟨h.1,?_⟩
      rw [nx,if_pos e,List.map_append,h.2]; rfl
     ·rw [Int.zero_add] at c3
      unfold BQ; rw [c3,Bool.and_false]
     ·rw [Int.zero_add] at c2
      unfold BQ; rw [c2,Bool.and_false,Bool.false_and]
     ·rw [Cu] at c1
      unfold BQ; rw [c1,Bool.false_and,Bool.false_and]
    ·intro m hm
     have ew : ys = (Bm S.fs j i).map wV := by rw [h.2,List.take_of_length_le (by omega)]
     subst ew
     have s4 : Ab H2 (upd H3 m (.lst ((Bm S.fs j i).map wV))) := (Ab.new hT).trans (h.1.trans (Ab.new hm))
     have hb4 := s4 _ _ hb2
     have hlen : (((Bs P.bs S.fs i).take j).map V.int).length < sizeLine := Da (by rw [List.length_map,List.length_take]; omega)
     refine ⟨.inl ⟨rfl,_,An.of hb4⟩,m,_,rfl,.inl (An.of Ak),rfl,FO,⟨fun c => ?_,fun c => ?_⟩⟩
     ·rw [if_neg (by decide),FN] at c
      refine ⟨b,_,.int 0,rfl,rfl,hb4,hlen,⟨_,_,_,_,rfl⟩,Ab.own (s2.trans s4) hb,?_⟩
      have e : BC (Bm S.fs j i) f.1 = 0 := by unfold BC; rw [if_pos c]
      rw [Ak,A3 (HC hf),List.map_append,e]; rfl
     ·rw [if_neg (by decide),FN] at c
      refine ⟨m,_,rfl,.inl (An.of Ak),rfl,FO,.inr ⟨_,rfl,?_⟩⟩
      have ek : (if (false = true) then !BH (V.str "scaled") ((Bm S.fs j i).map wV) else BH (V.str "scaled") ((Bm S.fs j i).map wV)) = (Bm S.fs j i).any (!·) := by rw [if_neg (by decide)]; exact HE
      have e := NU (m := f.1) c
      refine ⟨QC _,b,_,.int (BC (Bm S.fs j i) f.1),rfl,congrArg (fun z => [V.int z]) ((congrArg (fun (k : Bool) => f.1 / (1 + if k = true then 1 else 0)) ek).trans e),hb4,hlen,⟨_,_,_,_,rfl⟩,Ab.own (s2.trans s4) hb,?_⟩
      rw [Ak,A3 (HC hf),List.map_append]; rfl
   ·obtain ⟨⟨y5,y6,y7,y8,rfl⟩,s2,hb2⟩ := h
    rw [List.take_of_length_le (by rw [FM]; omega)] at hb2
    refine ⟨.inl ⟨rfl,_,An.of (s2 _ _ hxs)⟩,b,_,rfl,.inl ⟨An.of hb2,fun t ht => ?_⟩⟩
    have s3 : Ab H1 (upd H2 t (.tup ((Bs P.bs S.fs i).map V.int))) := s2.trans (Ab.new ht)
    have hR3 := s3 _ _ hxs
    refine ⟨R,xs,.ref t,rfl,rfl,hR3,Da (by omega),⟨_,_,_,_,_,_,rfl⟩,Ab.own (s1.trans s3) hR,_,Ak,?_⟩
    have tv := TEv.upd (zs := xs ++ [.ref t]) hR3
    rw [A3 (Do hi),List.map_append]
    refine Ad.snoc (Ad.tev ((Ev.same (p := p) s3).tev.trans tv) _ _ (EZ fun d hd => ?_) rxs) (Aa.tev tv _ _ (K0 _) (Aa.row (p := p) Ak))
    obtain ⟨rr,_,rfl⟩ := List.mem_map.mp hd
    exact K0 rr
  ·obtain ⟨⟨x3,x4,x5,x6,x7,x8',rfl⟩,s1,xs,hxs,rxs⟩ := hP
   refine ⟨R,xs,rfl,.inl ⟨An.of hxs,fun t ht => q _ _ (s1.trans (Ab.new ht)) (Aa.tup Ak ?_)⟩⟩
   rw [List.take_of_length_le (by rw [C0,List.length_map]; exact Nat.le_refl _)] at rxs
   exact Ad.ev (Ev.new ht) _ _ rxs
 ·exact h.elim
end
end MF
end
section
namespace MF
open PySem PySem.Spec PyProof.Rows L2
variable {p : Addr} {H : Hp} {v : V}
theorem Aa.terms {T : TM} (r : Aa p H T.d v) : ∃ A C B D M xc,v = .ref A /\ H A = some (.tup [.ref C,.ref B,.ref D,.ref M]) /\ H C = some (.tup xc) /\ Ad p H (T.cs.map AQ) xc /\ H B = some (.tup (T.co.map V.int)) /\ H D = some (.tup (T.ds.map V.int)) /\ H M = some (.tup [.int T.lo,.int T.hi,.int T.st]) := by
 unfold TM.d at r
 obtain ⟨A,xs,rfl,hA,rs⟩ := Aa.shape r
 obtain ⟨x,y,z,w,rfl,rx,ry,rz,rw⟩ := Ad.four rs
 obtain ⟨C,xc,rfl,hC,rc⟩ := Aa.shape rx
 obtain ⟨B,xb,rfl,hB,rb⟩ := Aa.shape ry
 obtain ⟨D,xd,rfl,hD,rd⟩ := Aa.shape rz
 obtain ⟨M,xm,rfl,hM,rm⟩ := Aa.shape rw
 obtain ⟨m1,m2,m3,rfl,r1,r2,r3⟩ := Ad.three rm
 unfold Aa at r1 r2 r3
 subst r1 r2 r3
 rw [Ad.ints rb] at hB
 rw [Ad.ints rd] at hD
 exact ⟨A,C,B,D,M,xc,rfl,hA,hC,rc,hB,hD,hM⟩
theorem Aa.ofRow' {r : List Int} (h : Aa p H (AQ r) v) : ∃ A,v = .ref A /\ H A = some (.tup (r.map V.int)) := by
 obtain ⟨A,xs,rfl,hA,rs⟩ := Aa.shape h
 rw [Ad.ints rs] at hA
 exact ⟨A,rfl,hA⟩
theorem QF {d : PyData} {lo hi : Int} (h : A2 d lo hi = true) : ∃ ds,d = .tuple ds /\ lo <= (ds.length : Int) /\ (ds.length : Int) <= hi := by
 cases d with
 | tuple ds =>
  unfold A2 at h
  obtain ⟨h1,h2⟩ := Bool.and_eq_true_iff.mp h
  exact ⟨ds,rfl,of_decide_eq_true h1,of_decide_eq_true h2⟩
 | _ => cases h
def E3 (n : Int) (d : PyData) : Bool := A2 d n n && (match d with | .tuple es => es.all HJ | _ => false)
theorem K2 {ns : List Int} (h : ∀ n ∈ ns,0 <= n) : E3 (ns.length : Int) (AQ ns) = true := by
 unfold E3 A2
 dsimp only
 rw [List.length_map,decide_eq_true (Int.le_refl _),Bool.true_and,Bool.true_and,List.all_eq_true]
 intro d hd
 obtain ⟨i,hi,rfl⟩ := List.mem_map.mp hd
 exact decide_eq_true (h i hi)
theorem Bw {ns : List Int} {i : Nat} (h : i < ns.length) : Ci (ns.map V.int) (i : Int) = some (.int (ns.getD i 0)) := by
 refine B9 ?_
 rw [List.getElem?_map,List.getElem?_eq_getElem h,List.getD_eq_getElem?_getD,List.getElem?_eq_getElem h]; rfl
def Ie : Sp := fun vs H Q _ => match vs with | [v,u] => ∃ p P S,PL.ok P /\ SY.ok S P.bs.length /\ Aa p H P.d v /\ Aa p H S.d u /\ ret H Q p (terms P S).d | _ => False
def E4 : Sp := fun vs H Q _ => match vs with | [x,.int m] => ∃ p d,Aa p H d x /\ m <= 1000 /\ ∀ b H',b = E3 m d -> Ab H H' -> Q (.bl b) H' | _ => False
def E5 : Sp := fun vs H Q _ => match vs with | [v,.int h,.int x,.int b] => ∃ p T n,h = ((n : Nat) : Int) /\ n < T.ds.length /\ A9 T /\ Aa p H T.d v /\ ∀ H',Ab H H' -> Q (.int (AW T n x b)) H' | _ => False
def Gu : Sp := fun vs H Q _ => match vs with | [v,u,w] => ∃ p P S ns,PL.ok P /\ SY.ok S P.bs.length /\ Aa p H P.d v /\ Aa p H S.d u /\ Aa p H (AQ ns) w /\ ns.length = S.ex.length /\ (∀ n ∈ ns,0 <= n) /\ ∀ H',Ab H H' -> Q (.int (A5 (terms P S) ns)) H' | _ => False
section
variable {P : Program} {w : World} {K : PySem.W.Frag} {mg : Str -> Option Value} {base : Heap}
theorem sc_terms_of : Av ["plant","story","caps","coals"] ["plant","story"] (Ar s_terms_of) := Ax
abbrev CQ (P : Program) (w : World) (K : PySem.W.Frag) (mg : Str -> Option Value) (base : Heap) : Prop := Fn P w K mg base 10 "terms_of" ["plant","story"] Ie
theorem QG (F : Df K mg "terms_of" s_terms_of ["plant","story"]) (T : Tx mg) (D_caps_of : Fn P w K mg base 9 "caps_of" ["plant","story"] E2) (D_draws_of : Fn P w K mg base 9 "draws_of" ["plant","story"] Eo) : CQ P w K mg base := by
 refine F.fn sc_terms_of (fun vs H Q E h => ?_) (fun f cdv A outer s H vs Q E hr h => ?_)
 ·unfold Ie at h; split at h; rfl; exact h.elim
 refine ⟨_,(Aj (AE (i := 2) sc_terms_of.nd rfl (Aw (by rfl)) (Ai D_caps_of (hr.mono (by decide)) rfl (Ap (cy 0) (cy 1)))) (Aj (AE (i := 3) sc_terms_of.nd rfl (Aw (by rfl)) (By (B0 K) rfl T.b_tuple BP (Al (A8 ["make","coal"] [none,none] rfl (BJ K (Az (AK K) (cy 0) Ah (fun _ _ => rfl))) (AJ.of rfl) (fun _ _ _ _ => (AC K (n := 2) (Ag (Af 0 (AG (by rfl))) (Ag (Af 1 (AG (by rfl))) AB)))) (fun _ _ _ _ => AX) (fun _ _ _ _ => (cy 1)))))) (Am (As (AZ (Bl (cy 2) (cy 3) (Ai D_draws_of (hr.mono (by decide)) rfl (Ap (cy 0) (cy 1))) (Az (AK K) (cy 0) Ah (fun _ _ => rfl)))))))),?_⟩
 unfold Ie at h
 split at h
 ·rename_i v u
  obtain ⟨p,P,S,ok,so,r,ru,q⟩ := h
  refine ⟨p,P,S,ok,so,r,ru,fun cv H1 s1 rc => ?_⟩
  obtain ⟨PA,PB,PE,PM,xb,xe,rfl,pA,pB,rb,pE,re,pM⟩ := Aa.plant (Aa.ev (Ev.same s1) _ _ r)
  have b4 := ok.b4
  have lb := rb.len
  rw [List.length_map] at lb
  refine ⟨PA,_,0,.ref PB,rfl,rfl,Ac.of pA,rfl,PB,rfl,⟨xb,Ac.of pB⟩,BO (xs := xb) (fun i ys H' => Ab H1 H' /\ ys = ((P.bs.take i).map fun q => V.int q.2)) (by omega) ⟨Ab.refl _,rfl⟩ (fun i ys H' h => by rw [h.2,List.length_map,List.length_take]; omega) (fun i ys H' _ h => Ac.of (h.1 _ _ pB)) (fun i x ys H' hx h => ?_) fun ys H' h => ?_⟩
  ·obtain ⟨f,hf,rd⟩ := Ad.mapGot rb hx
   obtain ⟨l,zs,rfl,hl',rz⟩ := Aa.shape (Aa.ev (Ev.same h.1) _ _ rd)
   obtain ⟨y1,y2,rfl,r1,r2⟩ := Ad.two rz
   unfold Aa at r1 r2
   subst r1 r2
   refine ⟨l,_,rfl,Ac.of hl',rfl,_,_,rfl,_,_,rfl,rfl,trivial,fun _ => ⟨h.1,?_⟩,fun z => by cases z⟩
   rw [A3 hf,List.map_append,h.2]; rfl
  ·intro m hm
   refine ⟨m,_,rfl,.inl ⟨An.of Ak,fun t ht => ?_⟩⟩
   have nt := Ab.new (o := .tup ys) ht
   have s2 := h.1.trans ((Ab.new (o := .lst ys) hm).trans nt)
   refine ⟨p,P,S,ok,so,Aa.ev (Ev.same (s1.trans s2)) _ _ r,Aa.ev (Ev.same (s1.trans s2)) _ _ ru,fun dv H3 s3 rd => ?_⟩
   have s13 := s2.trans s3
   refine ⟨PA,_,2,.ref PM,rfl,rfl,Ac.of (s13 _ _ pA),rfl,fun t2 ht2 => ?_⟩
   have s4 := Ab.new (o := .tup [cv,.ref t,dv,.ref PM]) ht2
   have ey : ys = (P.bs.map (·.2)).map V.int := by rw [h.2,List.take_of_length_le (by omega),List.map_map]; rfl
   have ht4 := (s3.trans s4) _ _ (Ak (H := upd H' m (.lst ys)) (a := t) (o := .tup ys))
   rw [ey] at ht4
   refine q _ _ (s1.trans (s13.trans s4)) (Aa.tup Ak (.cons (Aa.ev (Ev.same (s13.trans s4)) _ _ rc) (.cons (Aa.row ht4) (.cons (Aa.ev (Ev.same s4) _ _ rd) (.cons (Aa.tup ((s13.trans s4) _ _ pM) (.cons Aa.int (.cons Aa.int (.cons Aa.int .nil)))) .nil)))))
 ·exact h.elim
theorem QH : Av ["thing","many"] ["thing","many"] (Ar s_is_counts) := Ax
theorem QI (F : Df K mg "is_counts" s_is_counts ["thing","many"]) (T : Tx mg) (D_is_tuple_of : Cp P w K mg base) (D_is_whole : Fn P w K mg base 1 "is_whole" ["thing"] EX) : Fn P w K mg base 2 "is_counts" ["thing","many"] E4 := by
 refine F.fn QH (fun vs H Q E h => ?_) (fun f cdv A outer s H vs Q E hr h => ?_)
 ·unfold E4 at h; split at h; rfl; exact h.elim
 refine ⟨_,(Am (As (Bf (Ai D_is_tuple_of (hr.mono (by decide)) rfl (AD (cy 0) (cy 1) (cy 1))) (BF (AF (Dn rfl) rfl T.b_all boot_all (Al (A8 ["part"] [none] rfl (BJ K (cy 0)) (AJ.of rfl) (fun _ _ _ _ => (Af 0 (AG (by rfl)))) (fun _ _ _ _ => AX) (fun _ _ _ _ => (Bf (Ai D_is_whole (hr.mono (by decide)) rfl (Al (cy 0))) (BF (Cv Jy (cy 0) Ah (AL _)))))))))))),?_⟩
 unfold E4 at h
 split at h
 ·rename_i x m
  obtain ⟨p,d,r,m1000,q⟩ := h
  refine ⟨p,d,r,fun b hb => ⟨fun c => ?_,fun c => ?_⟩⟩
  ·have hf : A2 d m m = true := by rw [<- hb]; exact c
   obtain ⟨es,rfl,g1,g2⟩ := QF hf
   obtain ⟨A,xs,rfl,hA,rs⟩ := Aa.shape r
   have lx := rs.len
   refine ⟨A,rfl,⟨_,Ac.of hA⟩,BO (xs := xs) (fun i zs H' => Ab H H' /\ zs = (es.take i).map fun e => V.bl (HJ e)) (by omega) ⟨Ab.refl _,rfl⟩ (fun i zs H' h => by rw [h.2,List.length_map,List.length_take]; omega) (fun i zs H' _ h => Ac.of (h.1 _ _ hA)) (fun i x zs H' hx h => ?_) fun zs H' h => ?_⟩
   ·obtain ⟨e',he,re'⟩ := rs.got hx
    refine ⟨trivial,fun _ => ⟨p,e',Aa.ev (Ev.same h.1) _ _ re',fun b1 e1 => ⟨fun c1 => ?_,fun c1 => ?_⟩⟩,fun c => by cases c⟩
    ·subst c1
     cases e' <;> first | cases e1 | skip
     rename_i i'
     unfold Aa at re'
     subst re'
     refine ⟨h.1,?_⟩
     rw [A3 he,List.map_append,h.2]; rfl
    ·subst c1
     refine ⟨h.1,?_⟩
     rw [A3 he,List.map_append,h.2]
     cases e' <;> first | rfl | cases e1
   ·intro m2 hm
    refine ⟨m2,es.map HJ,rfl,by rw [Ak,h.2,List.take_of_length_le (by omega),List.map_map]; rfl,?_⟩
    refine q _ _ ?_ (h.1.trans (Ab.new hm))
    unfold E3
    rw [hf]
    dsimp only
    rw [List.all_map]; rfl
  ·have hf : A2 d m m = false := by rw [<- hb]; exact c
   exact q _ _ (by unfold E3; rw [hf]; rfl) (Ab.refl _)
 ·exact h.elim
theorem sc_floor_at : Av ["terms","hour","price","behind","caps","coals","draws","low","high","start","spared","kept"] ["terms","hour","price","behind"] (Ar s_floor_at) := Ax
theorem QJ (F : Df K mg "floor_at" s_floor_at ["terms","hour","price","behind"]) (T : Tx mg)  : Fn P w K mg base 1 "floor_at" ["terms","hour","price","behind"] E5 := by
 refine F.fn sc_floor_at (fun vs H Q E h => ?_) (fun f cdv A outer s H vs Q E hr h => ?_)
 ·unfold E5 at h; split at h; rfl; exact h.elim
 refine ⟨_,(Aj (AR (cy 0) (AC K (n := 4) (Ag (Af 4 sc_floor_at.nd) (Ag (Af 5 sc_floor_at.nd) (Ag (Af 6 sc_floor_at.nd) (Ag (AC K (n := 3) (Ag (Af 7 sc_floor_at.nd) (Ag (Af 8 sc_floor_at.nd) (Ag (Af 9 sc_floor_at.nd) AB)))) AB)))))) (Aj (AE (i := 10) sc_floor_at.nd rfl (Aw (by rfl)) (AF (EQ rfl) rfl T.b_sum boot_sum (Al (A8 ["cap","coal","price"] [none,none,some 2] rfl (EO P w K rfl T.b_zip (Ap (Az (AK K) (cy 4) (cy 1) (fun _ _ => rfl)) (cy 5))) (AJ.of rfl) (fun _ _ _ _ => (AC K (n := 2) (Ag (Af 0 (AG (by rfl))) (Ag (Af 1 (AG (by rfl))) AB)))) (fun _ _ _ _ => (D3 (AN Cz (cy 1) (cy 2) (AL _)))) (fun _ _ _ _ => (Aq CL (cy 0) (Aq AY (cy 1) (cy 2)))))))) (Aj (AE (i := 11) sc_floor_at.nd rfl (Aw (by rfl)) (Aq CL (Aq AY (cy 2) (cy 3)) (EM (AN FK (cy 2) (cy 3) (AL _)) (cy 7) (cy 8)))) (Am (As (Aq AV (Aq AV (Aq CL (cy 2) (Az (AK K) (cy 6) (cy 1) (fun _ _ => rfl))) (cy 10)) (cy 11))))))),?_⟩
 unfold E5 at h
 split at h
 ·rename_i v hh x b
  obtain ⟨p,T,n,rfl,hn,ok,r,q⟩ := h
  obtain ⟨A,C,B,D,M,xc,rfl,hA,hC,rc,hB,hD,hM⟩ := Aa.terms r
  have l8 := ok.ok.l8
  have lc := ok.ok.lc
  have o4 := ok.o
  have hrow : T.cs[n]? = some (T.cs.getD n []) := by rw [List.getD_eq_getElem?_getD,List.getElem?_eq_getElem (by omega)]; rfl
  obtain ⟨lr,cr⟩ := ok.c _ (List.mem_of_getElem? hrow)
  obtain ⟨y,hy,ry⟩ := rc.get (i := n) (d := AQ (T.cs.getD n [])) (by rw [List.getElem?_map,hrow]; rfl)
  obtain ⟨Cn,rfl,hCn⟩ := Aa.ofRow' ry
  have q' : ∀ H',Ab H H' -> Q (.int (x * T.ds.getD n 0 + spared (T.cs.getD n []) T.co x + B4 T.lo T.hi x b)) H' := q
  generalize T.cs.getD n [] = row at hrow lr cr hCn q'
  refine ⟨A,_,rfl,Ac.of hA,rfl,_,_,rfl,_,_,rfl,_,_,rfl,_,_,rfl,M,_,rfl,Ac.of hM,rfl,_,_,rfl,_,_,rfl,_,_,rfl,rfl,rfl,?_⟩
  refine ⟨C,xc,(n : Int),.ref Cn,rfl,rfl,Ac.of hC,B9 hy,Cn,B,rfl,⟨_,Ac.of hCn⟩,⟨_,Ac.of hB⟩,walk_zip (xs := row.map V.int) (ys := T.co.map V.int) (fun i zs H' => Ab H H' /\ ∃ ns : List Int,zs = ns.map V.int /\ ns.length <= i /\ ns.sum = (((row.zip T.co).take i).map (Bv x)).sum) (by rw [List.length_map]; omega) (by rw [List.length_map,List.length_map]; exact lr) ⟨Ab.refl _,[],rfl,Nat.le_refl _,rfl⟩
    (fun i zs H' h => by obtain ⟨_,ns,rfl,hl,_⟩ := h; rw [List.length_map]; exact hl) (fun i zs H' h => ⟨Ac.of (h.1 _ _ hCn),Ac.of (h.1 _ _ hB)⟩) (fun i xx yy zs H' T' hx hy h hT => ?_) fun zs H' h => ?_⟩
  ·rw [List.getElem?_map] at hx hy
   obtain ⟨m,hm,rfl⟩ := Option.map_eq_some_iff.mp hx
   obtain ⟨k,hk,rfl⟩ := Option.map_eq_some_iff.mp hy
   obtain ⟨s0,ns,rfl,hl,hs⟩ := h
   have s2 := s0.trans (Ab.new (o := .tup [.int m,.int k]) hT)
   have hz : (row.zip T.co)[i]? = some (m,k) := by rw [List.getElem?_zip_eq_some]; exact ⟨hm,hk⟩
   have bm := cr m (List.mem_of_getElem? hm)
   refine ⟨T',_,rfl,Ac.of Ak,rfl,_,_,rfl,_,_,rfl,rfl,⟨rfl,trivial⟩,fun c => ?_,fun c => ?_⟩
   ·refine ⟨.inl ⟨by omega,by omega⟩,s2,ns ++ [m * (k - x)],by rw [List.map_append]; rfl,by rw [List.length_append]; simp; exact hl,?_⟩
    rw [A3 hz,List.map_append,List.sum_append,List.sum_append,hs]
    have e : Bv x (m,k) = m * (k - x) := by unfold Bv; exact if_pos (of_decide_eq_true c)
    simp [e]
   ·refine ⟨s2,ns,rfl,by omega,?_⟩
    rw [A3 hz,List.map_append,List.sum_append,hs]
    have e : Bv x (m,k) = 0 := by unfold Bv; exact if_neg (of_decide_eq_false c)
    simp [e]
  ·obtain ⟨s0,ns,rfl,hl,hs⟩ := h
   intro m hm
   have s2 := s0.trans (Ab.new (o := .lst (ns.map V.int)) hm)
   have es : ns.sum = spared row T.co x := by rw [hs,List.take_of_length_le (by rw [List.length_zip,List.length_map]; omega)]; rfl
   refine ⟨m,ns,rfl,Ak,?_⟩
   rw [es]
   have h0 := ok.l0
   have h1 := ok.l4
   have h2 := ok.h0
   have h3 := ok.h4
   have bd := ok.d _ (getD_mem (d := 0) hn)
   refine ⟨fun c => ⟨.inr ⟨by omega,by omega⟩,D,_,(n : Int),.int (T.ds.getD n 0),rfl,rfl,Ac.of (s2 _ _ hD),Bw hn,.inr ⟨by omega,by omega⟩,?_⟩,fun c => ⟨.inr ⟨by omega,by omega⟩,D,_,(n : Int),.int (T.ds.getD n 0),rfl,rfl,Ac.of (s2 _ _ hD),Bw hn,.inr ⟨by omega,by omega⟩,?_⟩⟩
   ·have e : B4 T.lo T.hi x b = (x - b) * T.lo := by unfold B4; rw [if_pos (of_decide_eq_true c)]
    rw [e] at q'
    exact q' _ s2
   ·have e : B4 T.lo T.hi x b = (x - b) * T.hi := by unfold B4; rw [if_neg (of_decide_eq_false c)]
    rw [e] at q'
    exact q' _ s2
 ·exact h.elim
theorem sc_floor_of : Av ["plant","story","prices","terms","low","high","start","behind","parts"] ["plant","story","prices"] (Ar s_floor_of) := Ax
theorem QK (F : Df K mg "floor_of" s_floor_of ["plant","story","prices"]) (T : Tx mg) (D_floor_at : Fn P w K mg base 1 "floor_at" ["terms","hour","price","behind"] E5) (D_is_counts : Fn P w K mg base 2 "is_counts" ["thing","many"] E4) (D_terms_of : CQ P w K mg base) : Fn P w K mg base 11 "floor_of" ["plant","story","prices"] Gu := by
 refine F.fn sc_floor_of (fun vs H Q E h => ?_) (fun f cdv A outer s H vs Q E hr h => ?_)
 ·unfold Gu at h; split at h; rfl; exact h.elim
 refine ⟨_,(Aj (AE (i := 3) sc_floor_of.nd rfl (Aw (by rfl)) (Ai D_terms_of (hr.mono (by decide)) rfl (Ap (cy 0) (cy 1)))) (Aj (AU (BM (BA (Ai D_is_counts (hr.mono (by decide)) rfl (Ap (cy 2) (AF (Bb K) rfl T.b_len PySem.boot_len (Al (Az (AK K) (cy 1) Ah (fun _ _ => rfl)))))))) (Am Dg) AT) (Aj (AR (Az (AK K) (cy 0) Ah (fun _ _ => rfl)) (AC K (n := 3) (Ag (Af 4 sc_floor_of.nd) (Ag (Af 5 sc_floor_of.nd) (Ag (Af 6 sc_floor_of.nd) AB))))) (Aj (AE (i := 7) sc_floor_of.nd rfl (Aw (by rfl)) (Aq DJ (CU s_tup (cy 2) (B8 Ah) EC) (AZ (Al Ah)))) (Aj (EH (i := 8) ["hour","terms","prices","behind"] [none,some 3,some 2,some 7] sc_floor_of.nd rfl (Aw (by rfl)) rfl (BN rfl T.b_range (Al (AF (Bb K) rfl T.b_len PySem.boot_len (Al (cy 2))))) (AJ.of rfl) (fun _ _ _ _ => (Af 0 (AG (by rfl)))) (fun _ _ _ _ => AX) (fun _ _ _ _ => (Ai D_floor_at (hr.mono (by decide)) rfl (Bl (cy 1) (cy 0) (Az (AK K) (cy 2) (cy 0) (fun _ _ => rfl)) (Az (AK K) (cy 3) (cy 0) (fun _ _ => rfl)))))) (Am (As (Aq AY (AF (EQ rfl) rfl T.b_sum boot_sum (Al (cy 8))) (Aq CL (Az (AK K) (cy 2) Ah (fun _ _ => rfl)) (cy 6)))))))))),?_⟩
 unfold Gu at h
 split at h
 ·rename_i v u w
  obtain ⟨p,P,S,ns,ok,so,r,ru,rw',hl,hn,q⟩ := h
  have x1 := so.x1
  have x8 := so.x8
  refine ⟨p,P,S,ok,so,r,ru,fun tv H1 s1 rt => ?_⟩
  obtain ⟨A,B,E,xf,rfl,hA,hB,hE,rf⟩ := Aa.story (Aa.ev (Ev.same s1) _ _ ru)
  obtain ⟨PA,PB,PE,PM,xb,xe,rfl,pA,pB,rb,pE,re,pM⟩ := Aa.plant (Aa.ev (Ev.same s1) _ _ r)
  obtain ⟨W,rfl,hW⟩ := Aa.ofRow' (Aa.ev (Ev.same s1) _ _ rw')
  have fl := Cb ok so
  refine ⟨A,_,0,.ref B,rfl,rfl,Ac.of hA,rfl,B,_,rfl,.inr (Ac.of hB),p,AQ ns,Aa.row hW,by rw [List.length_map]; omega,fun b H2 hb s2 => ⟨fun c => ?_,fun c => ?_⟩⟩
  ·rw [hb,List.length_map,<- hl,K2 hn] at c
   cases c
  refine ⟨PA,_,2,.ref PM,rfl,rfl,Ac.of (s2 _ _ pA),rfl,PM,_,rfl,Ac.of (s2 _ _ pM),rfl,_,_,rfl,_,_,rfl,_,_,rfl,rfl,?_⟩
  have hW2 := s2 _ _ hW
  refine ⟨1,rfl,W,_,rfl,hW2,fun R3 H3 s3 k3 => fun t ht => ⟨R3,t,_,_,rfl,rfl,(Ab.new ht) _ _ k3,Ak,?_,fun R4 H4 s4 k4 => ?_⟩⟩
  ·rw [Kb,List.length_drop,List.length_map]; show _ + 1 <= 1000; omega
  rw [Kb] at k4
  have ek : (List.drop 1 (ns.map V.int) ++ [V.int 0]) = (ns.drop 1 ++ [0]).map V.int := by rw [List.map_append,List.map_drop]; rfl
  rw [ek] at k4
  have s24 := s3.trans ((Ab.new (o := .tup [.int 0]) ht).trans s4)
  have hW4 := s24 _ _ hW2
  have rt4 := Aa.ev (Ev.same (p := p) (s2.trans s24)) _ _ rt
  have lb : (ns.drop 1 ++ [0]).length = ns.length := by rw [List.length_append,List.length_drop]; simp; omega
  have gb : ∀ i,i < ns.length -> (ns.drop 1 ++ [0]).getD i 0 = ns.getD (i + 1) 0 := fun i hi => by
   rw [List.getD_eq_getElem?_getD,List.getD_eq_getElem?_getD]
   by_cases z : i + 1 < ns.length
   ·rw [List.getElem?_append_left (by rw [List.length_drop]; omega),List.getElem?_drop,Nat.add_comm 1 i]
   ·rw [List.getElem?_append_right (by rw [List.length_drop]; omega),List.length_drop,show i - (ns.length - 1) = 0 by omega,List.getElem?_eq_none (l := ns) (by omega)]; rfl
  have ld : (terms P S).ds.length = ns.length := by show (draws P S).length = _; rw [draws_len,hl]
  refine ⟨W,_,rfl,.inr (Ac.of hW4),_,rfl,by omega,by rw [List.length_map]; omega,EI (n := (ns.map V.int).length) (fun i ys H' => Ab H4 H' /\ ys = ((List.range i).map fun h => AW (terms P S) h (ns.getD h 0) (ns.getD (h + 1) 0)).map V.int) (by rw [List.length_map]; omega) ⟨Ab.refl _,rfl⟩ (fun i ys H' h => by rw [h.2,List.length_map,List.length_map,List.length_range]; omega) (fun i ys H' hi h => ?_) fun ys H' h => ?_⟩
  ·rw [List.length_map] at hi
   have g2 := Bw (ns := ns.drop 1 ++ [0]) (i := i) (by omega)
   rw [gb i hi] at g2
   refine ⟨⟨rfl,rfl,rfl,trivial⟩,fun _ => ⟨W,_,_,.int (ns.getD i 0),rfl,rfl,Ac.of (h.1 _ _ hW4),by rw [Int.zero_add]; exact Bw hi,R4,_,_,.int (ns.getD (i + 1) 0),rfl,rfl,Ac.of (h.1 _ _ k4),by rw [Int.zero_add]; exact g2,p,terms P S,i,Int.zero_add _,by omega,fl,Aa.ev (Ev.same h.1) _ _ rt4,fun H5 s5 => ⟨h.1.trans s5,?_⟩⟩,fun z => by cases z⟩
   rw [List.range_succ,List.map_append,List.map_append,h.2]; rfl
  ·intro m hm
   have s5 := h.1.trans (Ab.new (o := .lst ys) hm)
   refine ⟨m,(List.range ns.length).map fun h => AW (terms P S) h (ns.getD h 0) (ns.getD (h + 1) 0),rfl,by rw [Ak,h.2,List.length_map],W,_,0,.int (ns.getD 0 0),rfl,rfl,Ac.of (s5 _ _ hW4),Bw (i := 0) (by omega),.inr ?_,q _ (s1.trans (s2.trans (s24.trans s5)))⟩
   have h0 := fl.s0
   have h1 := fl.s4
   exact ⟨Int.lt_of_lt_of_le (by decide) h0,Int.lt_of_le_of_lt h1 (by decide)⟩
 ·exact h.elim
end
end MF
end
section
namespace MF
open PySem PySem.Spec PyProof.Rows L2
variable {p : Addr} {H : Hp} {ps : List Int} {v : V}
theorem Aa.tailShape {f : Int} (r : Aa p H (Cc f ps) v) : ∃ a b,v = .ref a /\ H a = some (.tup [.int f,.ref b]) /\ H b = some (.tup (ps.map V.int)) := by
 obtain ⟨a,xs,rfl,ha,rs⟩ := Aa.shape r
 obtain ⟨x,y,rfl,rx,ry⟩ := Ad.two rs
 unfold Aa at rx
 subst rx
 obtain ⟨b,ys,rfl,hb,rb⟩ := Aa.shape ry
 rw [Ad.ints rb] at hb
 exact ⟨a,b,rfl,ha,hb⟩
theorem K3 {f f' : Int} {ps' : List Int} (r : Aa p H (Cc f ps) v) (r' : Aa p H (Cc f' ps') v) : f = f' := by
 obtain ⟨a,b,rfl,ha,hb⟩ := Aa.tailShape r
 obtain ⟨a',b',e,ha',hb'⟩ := Aa.tailShape r'
 cases e
 rw [ha] at ha'
 injection ha' with e
 injection e with e
 injection e with e1 _
 injection e1
def Gv : Sp := fun vs H Q _ => match vs with | [v,.int h,.ref d] => ∃ p T n o kvs,A9 T /\ h = ((n : Nat) : Int) /\ n < T.ds.length /\ Aa p H T.d v /\ H d = some (.frz o (.dK kvs)) /\ kvs.length <= 5 /\ TailsAt p H T (n + 1) kvs /\ ∀ d' H' o' kvs',Ab H H' -> H' d' = some (.frz o' (.dK kvs')) -> kvs'.length <= 5 -> TailsAt p H' T n kvs' -> Q (.ref d') H' | _ => False
def E6 : Sp := fun vs H Q _ => match vs with | [v] => ∃ p T,A9 T /\ Aa p H T.d v /\ ∀ u H' f ps,Ab H H' -> Aa p H' (Cc f ps) u -> A4 T f ps -> Q u H' | _ => False
section
variable {P : Program} {w : World} {K : PySem.W.Frag} {mg : Str -> Option Value} {base : Heap}
theorem sc_tails_from : Av ["terms","hour","tails","caps","coals","draws","main"] ["terms","hour","tails"] (Ar s_tails_from) := Ax
theorem QL (F : Df K mg "tails_from" s_tails_from ["terms","hour","tails"]) (T : Tx mg) (D_floor_at : Fn P w K mg base 1 "floor_at" ["terms","hour","price","behind"] E5) : Fn P w K mg base 2 "tails_from" ["terms","hour","tails"] Gv := by
 refine F.fn sc_tails_from (fun vs H Q E h => ?_) (fun f cdv A outer s H vs Q E hr h => ?_)
 ·unfold Gv at h; split at h; rfl; exact h.elim
 refine ⟨_,(Aj (AR (cy 0) (AC K (n := 4) (Ag (Af 3 sc_tails_from.nd) (Ag (Af 4 sc_tails_from.nd) (Ag (Af 5 sc_tails_from.nd) (Ag (Af 6 sc_tails_from.nd) AB)))))) (Am (As (OI ["price","terms","hour","tails"] [none,some 0,some 1,some 2] rfl (BJ K (Aq DJ (C3 (Al Ah)) (cy 4))) (AJ.of rfl) (fun _ _ _ _ => (Af 0 (AG (by rfl)))) (fun _ _ _ _ => AX) (fun _ _ _ _ => (cy 0)) (fun _ _ _ _ => (AF (Kl rfl hr) rfl T.b_max boot_max (Al (A8 ["behind","floor","prices","terms","hour","price"] [none,none,none,some 1,some 2,some 0] rfl (Kc (cy 3)) (AJ.of rfl) (fun _ _ _ _ => (AC K (n := 2) (Ag (Af 0 (AG (by rfl))) (Ag (AC K (n := 2) (Ag (Af 1 (AG (by rfl))) (Ag (Af 2 (AG (by rfl))) AB))) AB)))) (fun _ _ _ _ => AX) (fun _ _ _ _ => (C3 (Ap (Aq AV (Ai D_floor_at (hr.mono (by decide)) rfl (Bl (cy 3) (cy 4) (cy 5) (cy 0))) (cy 1)) (Aq DJ (C3 (Al (cy 5))) (cy 2))))))))))))),?_⟩
 unfold Gv at h
 split at h
 ·rename_i v hh d
  obtain ⟨p,T,n,o,kvs,fl,rfl,hn,r,hd,l5,ta,q⟩ := h
  obtain ⟨A,C,B,D,M,xc,rfl,hA,hC,rc,hB,hD,hM⟩ := Aa.terms r
  have o4 := fl.o
  have l8 := fl.ok.l8
  refine ⟨A,_,rfl,Ac.of hA,rfl,_,_,rfl,_,_,rfl,_,_,rfl,_,_,rfl,rfl,?_⟩
  refine fun t1 H1 s1 k1 => ⟨t1,B,_,_,rfl,rfl,k1,s1 _ _ hB,by rw [List.length_map]; show 1 + _ <= 1000; omega,fun t2 H2 s2 k2 => ?_⟩
  have ek : [V.int 0] ++ T.co.map V.int = (0 :: T.co).map V.int := rfl
  rw [ek] at k2
  have s02 := s1.trans s2
  have lc : (0 :: T.co).length <= 5 := by rw [List.length_cons]; omega
  have ne : kvs ≠ [] := fun z => by
   obtain ⟨q,hq,_⟩ := ta.all 0 (by unfold DO; split <;> first | rfl | exact List.mem_cons_self)
   rw [z] at hq; cases hq
  refine ⟨t2,rfl,⟨_,Ac.of k2⟩,OS (xs := (0 :: T.co).map V.int) (fun i ks H' => Ab H2 H' /\ ks.length <= i /\ (∀ q ∈ ks,∃ x f ps,q.1 = .inl x /\ Aa p H' (Cc f ps) q.2 /\ OneTail T n x f ps) /\ ∀ x ∈ (0 :: T.co).take i,∃ q ∈ ks,q.1 = .inl x) (by rw [List.length_map]; omega) ⟨Ab.refl _,Nat.zero_le _,(fun _ h => nomatch h),fun x h => (by rw [List.take_zero] at h; cases h)⟩ (fun i ks H' h => h.2.1) (fun i ks H' _ h => Ac.of (h.1 _ _ k2)) (fun i x ks H' hx h => ?_) fun ks H' h => ?_⟩
  ·rw [List.getElem?_map] at hx
   obtain ⟨pr,hpr,rfl⟩ := Option.map_eq_some_iff.mp hx
   have mpr := List.mem_of_getElem? hpr
   obtain ⟨s2',lk,one,all⟩ := h
   have s0 := s02.trans s2'
   have r0 := Aa.ev (Ev.same (p := p) s0) _ _ r
   refine ⟨⟨rfl,rfl,rfl,trivial⟩,fun _ => ?_,fun z => by cases z⟩
   refine ⟨d,o,kvs,rfl,s0 _ _ hd,Kd (fun j zs H'' => Ab H' H'' /\ ∃ fs : List (Int × List PyData),Ad p H'' (fs.map fun q => .tuple (.int q.1 :: q.2)) zs /\ fs.length = j /\ ∀ k q0,k < j -> kvs[k]? = some q0 -> ∃ fq,fs[k]? = some fq /\ F2 p H T (n + 1) (fun b f => AW T n pr b + f) (fun ps => pr :: ps) q0 fq) (by omega) ⟨Ab.refl _,[],.nil,rfl,(fun k _ h => absurd h (Nat.not_lt_zero k))⟩ (fun j zs H'' h => by obtain ⟨_,fs,rs,lf,_⟩ := h; rw [<- rs.len,List.length_map,lf]; exact Nat.le_refl _) (fun j zs H'' h => h.1 _ _ (s0 _ _ hd)) (fun j q0 zs H'' T' hq h hT => ?_) fun zs H'' h => ?_⟩
   ·obtain ⟨s3,fs,rs,lf,hfs⟩ := h
    obtain ⟨b,f,ps,eb,rq,ot⟩ := ta.one q0 (List.mem_of_getElem? hq)
    obtain ⟨kk,y⟩ := q0
    have eb' : kk = .inl b := eb
    subst eb'
    have lps := ot.len
    have sT := Ab.new (o := .tup [.int b,y]) hT
    have s4 := s3.trans sT
    have s04 := s0.trans s4
    obtain ⟨l,bb,ey,hl,hbb⟩ := Aa.tailShape (Aa.ev (Ev.same s04) _ _ rq)
    replace ey : y = .ref l := ey
    subst ey
    refine ⟨T',_,rfl,Ac.of Ak,rfl,_,_,rfl,_,_,rfl,l,_,rfl,Ac.of hl,rfl,_,_,rfl,_,_,rfl,rfl,rfl,⟨rfl,rfl,rfl,trivial⟩,fun _ => ?_,fun z => by cases z⟩
    have r4 := Aa.ev (Ev.same (p := p) s04) _ _ r
    refine ⟨p,T,n,rfl,hn,fl,r4,fun H5 s5 => fun t6 H6 s6 k6 => ⟨t6,bb,_,_,rfl,rfl,k6,(s5.trans s6) _ _ hbb,by rw [List.length_map]; show 1 + _ <= 1000; omega,fun t7 H7 s7 k7 => fun t8 H8 s8 k8 => ?_⟩⟩
    have ek7 : [V.int pr] ++ ps.map V.int = (pr :: ps).map V.int := rfl
    rw [ek7] at k7
    have s58 := s5.trans (s6.trans (s7.trans s8))
    refine ⟨s4.trans s58,fs ++ [(AW T n pr b + f,[AQ (pr :: ps)])],?_,by rw [List.length_append,lf]; rfl,fun k q1 hk hq1 => ?_⟩
    ·rw [List.map_append]
     have s38 : Ab H'' H8 := sT.trans s58
     exact Ad.snoc (Ad.ev (Ev.same s38) _ _ rs) (Aa.tup k8 (.cons Aa.int (.cons (Aa.row (s8 _ _ k7)) .nil)))
    ·by_cases z : k < j
     ·obtain ⟨fq,h1,h2⟩ := hfs k q1 z hq1
      exact ⟨fq,by rw [List.getElem?_append_left (by omega)]; exact h1,h2⟩
     ·obtain rfl : k = j := by omega
      rw [hq] at hq1
      cases hq1
      exact ⟨_,by rw [List.getElem?_append_right (by omega),lf,Nat.sub_self]; rfl,b,f,ps,rfl,rq,ot,rfl⟩
   ·obtain ⟨s3,fs,rs,lf,hfs⟩ := h
    intro L hL
    have nL := Ab.new (o := .lst zs) hL
    have rsL := Ad.ev (Ev.same (p := p) nL) _ _ rs
    have row : ∀ fq ∈ fs,∃ q0 ∈ kvs,F2 p H T (n + 1) (fun b f => AW T n pr b + f) (fun ps => pr :: ps) q0 fq := fun fq hfq => by
     obtain ⟨k,hk⟩ := List.getElem?_of_mem hfq
     have hk' := (List.getElem?_eq_some_iff.mp hk).1
     obtain ⟨fq',h1,h2⟩ := hfs k kvs[k] (by omega) (List.getElem?_eq_getElem (by omega))
     rw [hk] at h1; cases h1
     exact ⟨_,List.getElem_mem _,h2⟩
    refine ⟨p,L,fs,zs,rfl,Ak,rsL,fun z => ne (List.eq_nil_of_length_eq_zero (by rw [z] at lf; exact lf.symm)),fun q1 h1 q2 h2 => ?_,fun i' fq v hfq hv top => ?_⟩
    ·obtain ⟨_,_,b1,f1,ps1,_,_,_,e1⟩ := row q1 h1
     obtain ⟨_,_,b2,f2,ps2,_,_,_,e2⟩ := row q2 h2
     rw [e1,e2]
     exact .cons (.row _ _) .nil
    ·obtain ⟨q0,m0,b,f,ps,eb,rq,ot,rfl⟩ := row fq (List.mem_of_getElem? hfq)
     obtain ⟨v',hv',rv⟩ := rsL.get (i := i') (d := Cc (AW T n pr b + f) (pr :: ps)) (by rw [List.getElem?_map,hfq]; rfl)
     rw [hv] at hv'; cases hv'
     have ot' : OneTail T n pr (AW T n pr b + f) (pr :: ps) := OneTail.step ta hn mpr ot fun b' f' ps' o1 ⟨q1,m1,e1,r1⟩ => by
      obtain ⟨k,hk⟩ := List.getElem?_of_mem m1
      have hk' := (List.getElem?_eq_some_iff.mp hk).1
      obtain ⟨fq',g1,b2,f2,ps2,e2,r2,o2,rfl⟩ := hfs k q1 hk' hk
      have eb2 : b2 = b' := by rw [e1] at e2; injection e2 with e2; exact e2.symm
      subst eb2
      have ef := K3 r1 r2
      subst ef
      exact top _ (List.mem_of_getElem? g1)
     have s2L := s2'.trans (s3.trans nL)
     refine ⟨.inl pr,rfl,s2L,Nat.le_trans (Ke _ _ _) (by omega),fun q1 h1 => ?_,fun x hx => ?_⟩
     ·rcases O2 h1 with h1 | rfl
      ·obtain ⟨x,f1,ps1,e1,r1,o1⟩ := one q1 h1
       exact ⟨x,f1,ps1,e1,Aa.ev (Ev.same (s3.trans nL)) _ _ r1,o1⟩
      ·exact ⟨pr,_,_,rfl,rv,ot'⟩
     ·rw [A3 hpr] at hx
      rcases List.mem_append.mp hx with hx | hx
      ·obtain ⟨q1,h1,e1⟩ := all x hx
       obtain ⟨q2,h2,e2⟩ := O4 (k := .inl pr) (v := v) h1
       exact ⟨q2,h2,e2.trans e1⟩
      ·rw [List.mem_singleton.mp hx]
       exact O3
  ·obtain ⟨s2',lk,one,all⟩ := h
   intro d' o' hd'
   rw [List.length_map] at lk all
   have nd := Ab.new (o := .frz o' (.dK ks)) hd'
   refine q d' _ o' ks (s02.trans (s2'.trans nd)) Ak (by omega) ⟨fun q1 h1 => ?_,fun x hx => ?_⟩
   ·obtain ⟨x,f1,ps1,e1,r1,o1⟩ := one q1 h1
    exact ⟨x,f1,ps1,e1,Aa.ev (Ev.same nd) _ _ r1,o1⟩
   ·unfold DO at hx
    rw [if_neg (by omega)] at hx
    exact all x (by rw [List.take_length]; exact hx)
 ·exact h.elim
theorem sc_highest_floor : Av ["terms","caps","coals","draws","low","high","start","tails","hour"] ["terms"] (Ar s_highest_floor) := Ax
theorem QM (F : Df K mg "highest_floor" s_highest_floor ["terms"]) (T : Tx mg) (D_tails_from : Fn P w K mg base 2 "tails_from" ["terms","hour","tails"] Gv) : Fn P w K mg base 3 "highest_floor" ["terms"] E6 := by
 refine F.fn sc_highest_floor (fun vs H Q E h => ?_) (fun f cdv A outer s H vs Q E hr h => ?_)
 ·unfold E6 at h; split at h; rfl; exact h.elim
 refine ⟨_,(Aj (AR (cy 0) (AC K (n := 4) (Ag (Af 1 sc_highest_floor.nd) (Ag (Af 2 sc_highest_floor.nd) (Ag (Af 3 sc_highest_floor.nd) (Ag (AC K (n := 3) (Ag (Af 4 sc_highest_floor.nd) (Ag (Af 5 sc_highest_floor.nd) (Ag (Af 6 sc_highest_floor.nd) AB)))) AB)))))) (Aj (AE (i := 7) sc_highest_floor.nd rfl (Aw (by rfl)) (OQ (C3 (Ap Ah (C3 Ch))))) (Aj (BG PassesOwn.never rfl (OO rfl T.b_reversed rfl T.b_range (Al (AF (Bb K) rfl T.b_len PySem.boot_len (Al (cy 3))))) (Af 8 sc_highest_floor.nd) (Am (AE (i := 7) sc_highest_floor.nd rfl (Aw (by rfl)) (Ai D_tails_from (hr.mono (by decide)) rfl (AD (cy 0) (cy 8) (cy 7)))))) (Am (As (AF (Kl rfl hr) rfl T.b_max boot_max (Al (A8 ["price","floor","prices","start"] [none,none,none,some 6] rfl (Kc (cy 7)) (AJ.of rfl) (fun _ _ _ _ => (AC K (n := 2) (Ag (Af 0 (AG (by rfl))) (Ag (AC K (n := 2) (Ag (Af 1 (AG (by rfl))) (Ag (Af 2 (AG (by rfl))) AB))) AB)))) (fun _ _ _ _ => AX) (fun _ _ _ _ => (C3 (Ap (Aq AY (cy 1) (Aq CL (cy 0) (cy 3))) (cy 2)))))))))))),?_⟩
 unfold E6 at h
 split at h
 ·rename_i v
  obtain ⟨p,T,fl,r,q⟩ := h
  obtain ⟨A,C,B,D,M,xc,rfl,hA,hC,rc,hB,hD,hM⟩ := Aa.terms r
  have l8 := fl.ok.l8
  refine ⟨A,_,rfl,Ac.of hA,rfl,_,_,rfl,_,_,rfl,_,_,rfl,_,_,rfl,M,_,rfl,Ac.of hM,rfl,_,_,rfl,_,_,rfl,_,_,rfl,rfl,rfl,?_⟩
  refine fun t1 H1 s1 k1 => fun t2 H2 s2 k2 => fun d0 o0 hd0 => ?_
  have n0 := Ab.new (o := .frz o0 (.dK [(.inl 0,.ref t2)])) hd0
  have r2 : Aa p H2 (Cc 0 []) (.ref t2) := Aa.tup k2 (.cons Aa.int (.cons (Aa.tup (s2 _ _ k1) .nil) .nil))
  have ta0 := (O5 (T := T) r2).same n0
  have s3 := s1.trans (s2.trans n0)
  have kd0 : upd H2 d0 (.frz o0 (.dK [(.inl 0,.ref t2)])) d0 = some (.frz o0 (.dK [(.inl 0,.ref t2)])) := Ak
  generalize upd H2 d0 (.frz o0 (.dK [(.inl 0,.ref t2)])) = H3 at s3 ta0 kd0 ⊢
  refine ⟨D,_,rfl,.inr (Ac.of (s3 _ _ hD)),_,rfl,by omega,by rw [List.length_map]; omega,NN (fun i σ H' => ∃ x8 d o kvs,σ = [some (.ref A),some (.ref C),some (.ref B),some (.ref D),some (.int T.lo),some (.int T.hi),some (.int T.st),some (.ref d),x8] /\ i <= T.ds.length /\ Ab H H' /\ H' d = some (.frz o (.dK kvs)) /\ kvs.length <= 5 /\ TailsAt p H' T (T.ds.length - i) kvs) ⟨_,d0,o0,_,rfl,Nat.zero_le _,s3,kd0,by show 1 <= 5; decide,ta0⟩ (fun i σ H' hi h => ?_) fun σ H' h => ?_⟩
  ·obtain ⟨x8,d,o,kvs,rfl,hi',s',kd,l5,ta⟩ := h
   have hi2 : i < T.ds.length := by rw [List.length_map] at hi; omega
   refine ⟨p,T,T.ds.length - (i + 1),o,kvs,fl,by rw [List.length_map]; omega,by omega,Aa.ev (Ev.same s') _ _ r,kd,l5,by rw [show T.ds.length - (i + 1) + 1 = T.ds.length - i by omega]; exact ta,fun d' H4 o' kvs' s4 kd' l5' ta' => ⟨_,d',o',kvs',rfl,by omega,s'.trans s4,kd',l5',ta'⟩⟩
  ·obtain ⟨x8,d,o,kvs,rfl,hi',s',kd,l5,ta⟩ := h
   have e0 : T.ds.length - ((T.ds.map V.int).length : Int).toNat = 0 := by rw [List.length_map]; omega
   rw [e0] at ta
   have ne : kvs ≠ [] := fun z => by
    obtain ⟨q,hq,_⟩ := ta.all 0 (by unfold DO; split <;> first | rfl | exact List.mem_cons_self)
    rw [z] at hq; cases hq
   have h0 := fl.s0
   have h4 := fl.s4
   refine ⟨d,o,kvs,rfl,kd,Kd (fun j zs H'' => Ab H' H'' /\ ∃ fs : List (Int × List PyData),Ad p H'' (fs.map fun q => .tuple (.int q.1 :: q.2)) zs /\ fs.length = j /\ ∀ k q0,k < j -> kvs[k]? = some q0 -> ∃ fq,fs[k]? = some fq /\ F2 p H' T 0 (fun b f => f - b * T.st) (fun ps => ps) q0 fq) (by omega) ⟨Ab.refl _,[],.nil,rfl,(fun k _ h => absurd h (Nat.not_lt_zero k))⟩ (fun j zs H'' h => by obtain ⟨_,fs,rs,lf,_⟩ := h; rw [<- rs.len,List.length_map,lf]; exact Nat.le_refl _) (fun j zs H'' h => h.1 _ _ kd) (fun j q0 zs H'' T' hq h hT => ?_) fun zs H'' h => ?_⟩
   ·obtain ⟨s3,fs,rs,lf,hfs⟩ := h
    obtain ⟨b,f,ps,eb,rq,ot⟩ := ta.one q0 (List.mem_of_getElem? hq)
    obtain ⟨kk,y⟩ := q0
    have eb' : kk = .inl b := eb
    subst eb'
    obtain ⟨l,bb,ey,hl0,hbb0⟩ := Aa.tailShape (Aa.ev (Ev.same s3) _ _ rq)
    replace ey : y = .ref l := ey
    subst ey
    have sT := Ab.new (o := .tup [.int b,.ref l]) hT
    have s4 := s3.trans sT
    have hl := sT _ _ hl0
    have hbb := sT _ _ hbb0
    refine ⟨T',_,rfl,Ac.of Ak,rfl,_,_,rfl,_,_,rfl,l,_,rfl,Ac.of hl,rfl,_,_,rfl,_,_,rfl,rfl,rfl,⟨rfl,trivial⟩,fun _ => ?_,fun z => by cases z⟩
    refine ⟨.inr ⟨Int.lt_of_lt_of_le (by decide) h0,Int.lt_of_le_of_lt h4 (by decide)⟩,fun t8 H8 s8 k8 => ?_⟩
    refine ⟨s4.trans s8,fs ++ [(f - b * T.st,[AQ ps])],?_,by rw [List.length_append,lf]; rfl,fun k q1 hk hq1 => ?_⟩
    ·rw [List.map_append]
     exact Ad.snoc (Ad.ev (Ev.same (sT.trans s8)) _ _ rs) (Aa.tup k8 (.cons Aa.int (.cons (Aa.row (s8 _ _ hbb)) .nil)))
    ·by_cases z : k < j
     ·obtain ⟨fq,h1,h2⟩ := hfs k q1 z hq1
      exact ⟨fq,by rw [List.getElem?_append_left (by omega)]; exact h1,h2⟩
     ·obtain rfl : k = j := by omega
      rw [hq] at hq1
      cases hq1
      exact ⟨_,by rw [List.getElem?_append_right (by omega),lf,Nat.sub_self]; rfl,b,f,ps,rfl,rq,ot,rfl⟩
   ·obtain ⟨s3,fs,rs,lf,hfs⟩ := h
    intro L hL
    have nL := Ab.new (o := .lst zs) hL
    have rsL := Ad.ev (Ev.same (p := p) nL) _ _ rs
    have row : ∀ fq ∈ fs,∃ q0 ∈ kvs,F2 p H' T 0 (fun b f => f - b * T.st) (fun ps => ps) q0 fq := fun fq hfq => by
     obtain ⟨k,hk⟩ := List.getElem?_of_mem hfq
     have hk' := (List.getElem?_eq_some_iff.mp hk).1
     obtain ⟨fq',h1,h2⟩ := hfs k kvs[k] (by omega) (List.getElem?_eq_getElem (by omega))
     rw [hk] at h1; cases h1
     exact ⟨_,List.getElem_mem _,h2⟩
    refine ⟨p,L,fs,zs,rfl,Ak,rsL,fun z => ne (List.eq_nil_of_length_eq_zero (by rw [z] at lf; exact lf.symm)),fun q1 h1 q2 h2 => ?_,fun i' fq v hfq hv top => ?_⟩
    ·obtain ⟨_,_,b1,f1,ps1,_,_,_,e1⟩ := row q1 h1
     obtain ⟨_,_,b2,f2,ps2,_,_,_,e2⟩ := row q2 h2
     rw [e1,e2]
     exact .cons (.row _ _) .nil
    ·obtain ⟨q0,m0,b,f,ps,eb,rq,ot,rfl⟩ := row fq (List.mem_of_getElem? hfq)
     obtain ⟨v',hv',rv⟩ := rsL.get (i := i') (d := Cc (f - b * T.st) ps) (by rw [List.getElem?_map,hfq]; rfl)
     rw [hv] at hv'; cases hv'
     refine q _ _ _ ps (s'.trans (s3.trans nL)) rv (O6 ta ot fun x' f' ps' o1 ⟨q1,m1,e1,r1⟩ => ?_)
     obtain ⟨k,hk⟩ := List.getElem?_of_mem m1
     have hk' := (List.getElem?_eq_some_iff.mp hk).1
     obtain ⟨fq',g1,b2,f2,ps2,e2,r2,o2,rfl⟩ := hfs k q1 hk' hk
     have eb2 : b2 = x' := by rw [e1] at e2; injection e2 with e2; exact e2.symm
     subst eb2
     have ef := K3 r1 r2
     subst ef
     exact top _ (List.mem_of_getElem? g1)
 ·exact h.elim
end
end MF
end
section
namespace MF
open PySem PySem.Spec PyProof.Rows L2
variable {p : Addr} {H : Hp}
theorem Aa.intE {a b : Int} (h : b = a) : Aa p H (.int a) (.int b) := by subst h; exact Aa.int
theorem Aa.pair {q : Nat × Nat} {v : V} (r : Aa p H (pD q) v) : ∃ A,v = .ref A /\ H A = some (.tup [.int q.1,.int q.2]) := by
 obtain ⟨A,xs,rfl,hA,rs⟩ := Aa.shape r
 obtain ⟨x,y,rfl,rx,ry⟩ := Ad.two rs
 unfold Aa at rx ry
 subst rx ry
 exact ⟨A,rfl,hA⟩
theorem QN {xs : List V} {i : Nat} (h : i <= xs.length) : A7 xs none (some (i : Int)) = xs.take i := by
 unfold A7 HT.sIx
 dsimp only
 rw [if_neg (by omega),List.drop_zero,Nat.sub_zero,Int.toNat_natCast,Nat.min_eq_left h]
def Gw : Sp := fun vs H Q _ => match vs with | [v,u] => ∃ p T f l,TM.ok T /\ Aa p H T.d v /\ Aa p H (pD (f,l)) u /\ f <= l /\ l < T.ds.length /\ ∀ H',Ab H H' -> Q (.bl (BS T f l)) H' | _ => False
def E7 : Sp := fun vs H Q _ => match vs with | [v] => ∃ p T,TM.ok T /\ Aa p H T.d v /\ ret H Q p (HG (Bc T)) | _ => False
def E8 : Sp := fun vs H Q _ => match vs with | [.ref A,.int n,y] => ∃ xs,∃ k : Nat,n = (k : Int) /\ k < xs.length /\ xs.length <= 100 /\ H A = some (.tup xs) /\ ∀ B H',Ab H H' -> H' B = some (.tup (xs.set k y)) -> Q (.ref B) H' | _ => False
def Ig : Sp := fun vs H Q _ => match vs with | [v] => ∃ p T,A9 T /\ Aa p H T.d v /\ (Bc T ≠ none -> ∀ H',Ab H H' -> Q .non H') /\ (Bc T = none -> ∀ f ps H',A4 T f ps -> Ab H H' -> Q (.int f) H') | _ => False
def Ep : Sp := fun vs H Q _ => match vs with | [.ref A,.int n,.int u] => ∃ ns : List Int,∃ k : Nat,n = (k : Int) /\ k < ns.length /\ ns.length <= 100 /\ H A = some (.tup (ns.map V.int)) /\ ∀ B H',Ab H H' -> H' B = some (.tup ((ns.set k (ns.getD k 0 + u)).map V.int)) -> Q (.ref B) H' | _ => False
section
variable {P : Program} {w : World} {K : PySem.W.Frag} {mg : Str -> Option Value} {base : Heap}
theorem sc_is_too_much : Av ["terms","stretch","caps","coals","draws","low","high","start","first","last","ahead","most"] ["terms","stretch"] (Ar s_is_too_much) := Ax
theorem QO (F : Df K mg "is_too_much" s_is_too_much ["terms","stretch"]) (T : Tx mg)  : Fn P w K mg base 1 "is_too_much" ["terms","stretch"] Gw := by
 refine F.fn sc_is_too_much (fun vs H Q E h => ?_) (fun f cdv A outer s H vs Q E hr h => ?_)
 ·unfold Gw at h; split at h; rfl; exact h.elim
 refine ⟨_,(Aj (AR (cy 0) (AC K (n := 4) (Ag (Af 2 sc_is_too_much.nd) (Ag (Af 3 sc_is_too_much.nd) (Ag (Af 4 sc_is_too_much.nd) (Ag (AC K (n := 3) (Ag (Af 5 sc_is_too_much.nd) (Ag (Af 6 sc_is_too_much.nd) (Ag (Af 7 sc_is_too_much.nd) AB)))) AB)))))) (Aj (AR (cy 1) (AC K (n := 2) (Ag (Af 8 sc_is_too_much.nd) (Ag (Af 9 sc_is_too_much.nd) AB)))) (Aj (AE (i := 10) sc_is_too_much.nd rfl (Aw (by rfl)) (EM (AN CG (cy 8) Ah (AL _)) (cy 7) (cy 6))) (Aj (AE (i := 11) sc_is_too_much.nd rfl (Aw (by rfl)) (AF (Dp rfl) rfl T.b_sum boot_sum (Al (A8 ["row"] [none] rfl (BJ K (CU s_tup (cy 2) (B8 (cy 8)) (B8 (Aq AV (cy 9) Ah)))) (AJ.of rfl) (fun _ _ _ _ => (Af 0 (AG (by rfl)))) (fun _ _ _ _ => AX) (fun _ _ _ _ => (AF (Dp rfl) rfl T.b_sum boot_sum (Al (cy 0)))))))) (Am (As (Cv Cz (Aq AV (cy 10) (cy 11)) (Aq AV (AF (Dp rfl) rfl T.b_sum boot_sum (Al (CU s_tup (cy 4) (B8 (cy 8)) (B8 (Aq AV (cy 9) Ah))))) (cy 5)) (AL _)))))))),?_⟩
 unfold Gw at h
 split at h
 ·rename_i v u
  obtain ⟨p,T,f,l,ok,r,ru,hfl,hl,q⟩ := h
  obtain ⟨A,C,B,D,M,xc,rfl,hA,hC,rc,hB,hD,hM⟩ := Aa.terms r
  obtain ⟨U,rfl,hU⟩ := Aa.pair ru
  have l8 := ok.l8
  have lc := ok.lc
  have lx := rc.len
  rw [List.length_map] at lx
  refine ⟨A,_,rfl,Ac.of hA,rfl,_,_,rfl,_,_,rfl,_,_,rfl,_,_,rfl,M,_,rfl,Ac.of hM,rfl,_,_,rfl,_,_,rfl,_,_,rfl,rfl,rfl,?_⟩
  refine ⟨U,_,rfl,Ac.of hU,rfl,_,_,rfl,_,_,rfl,rfl,rfl,⟨fun c => ?_,fun c => ?_⟩⟩
  ·have ea : (if f = 0 then T.st else T.hi) = T.st := by
    rw [Cu] at c
    have : (f : Int) = 0 := by simpa using c
    rw [if_pos (by omega)]
   refine ⟨(f : Int),rfl,(l : Int) + 1,rfl,C,xc,rfl,hC,fun R H1 s1 k1 => ?_⟩
   rw [FX hfl (by omega)] at k1
   have rp := Ad.part (Ad.ev (Ev.same s1) _ _ rc) f l
   rw [Eb] at rp
   have lp := JX (xs := T.cs) hfl (by omega)
   have lq := rp.len
   rw [List.length_map] at lq
   refine ⟨R,rfl,⟨_,Ac.of k1⟩,BO (xs := part xc f l) (fun i ys H' => Ab H1 H' /\ ys = (((part T.cs f l).take i).map List.sum).map V.int) (by omega) ⟨Ab.refl _,rfl⟩ (fun i ys H' h => by rw [h.2,List.length_map,List.length_map,List.length_take]; omega) (fun i ys H' _ h => Ac.of (h.1 _ _ k1)) (fun i x ys H' hx h => ?_) fun ys H2 h => ?_⟩
   ·obtain ⟨r',hr',rr⟩ := Ad.mapGot rp hx
    obtain ⟨ra,rfl,hra⟩ := Aa.ofRow' rr
    refine ⟨trivial,fun _ => ⟨ra,r',rfl,.inr (h.1 _ _ hra),h.1,?_⟩,fun z => by cases z⟩
    rw [A3 hr',List.map_append,List.map_append,h.2]; rfl
   ·intro m hm
    have s2 := s1.trans (h.1.trans (Ab.new (o := .lst ys) hm))
    refine ⟨m,(part T.cs f l).map List.sum,rfl,.inl ?_,?_⟩
    ·rw [Ak,h.2,List.take_of_length_le (by omega)]
    refine ⟨(f : Int),rfl,(l : Int) + 1,rfl,D,T.ds.map V.int,rfl,s2 _ _ hD,fun R2 H3 s3 k3 => ?_⟩
    rw [FX hfl (by rw [List.length_map]; exact hl),Eb] at k3
    refine ⟨R2,part T.ds f l,rfl,.inr k3,?_⟩
    have := q H3 (s2.trans s3)
    unfold BS at this
    rw [ea] at this
    exact this
  ·have ea : (if f = 0 then T.st else T.hi) = T.hi := by
    rw [Cu] at c
    have : (f : Int) ≠ 0 := by simpa using c
    rw [if_neg (by omega)]
   refine ⟨(f : Int),rfl,(l : Int) + 1,rfl,C,xc,rfl,hC,fun R H1 s1 k1 => ?_⟩
   rw [FX hfl (by omega)] at k1
   have rp := Ad.part (Ad.ev (Ev.same s1) _ _ rc) f l
   rw [Eb] at rp
   have lp := JX (xs := T.cs) hfl (by omega)
   have lq := rp.len
   rw [List.length_map] at lq
   refine ⟨R,rfl,⟨_,Ac.of k1⟩,BO (xs := part xc f l) (fun i ys H' => Ab H1 H' /\ ys = (((part T.cs f l).take i).map List.sum).map V.int) (by omega) ⟨Ab.refl _,rfl⟩ (fun i ys H' h => by rw [h.2,List.length_map,List.length_map,List.length_take]; omega) (fun i ys H' _ h => Ac.of (h.1 _ _ k1)) (fun i x ys H' hx h => ?_) fun ys H2 h => ?_⟩
   ·obtain ⟨r',hr',rr⟩ := Ad.mapGot rp hx
    obtain ⟨ra,rfl,hra⟩ := Aa.ofRow' rr
    refine ⟨trivial,fun _ => ⟨ra,r',rfl,.inr (h.1 _ _ hra),h.1,?_⟩,fun z => by cases z⟩
    rw [A3 hr',List.map_append,List.map_append,h.2]; rfl
   ·intro m hm
    have s2 := s1.trans (h.1.trans (Ab.new (o := .lst ys) hm))
    refine ⟨m,(part T.cs f l).map List.sum,rfl,.inl ?_,?_⟩
    ·rw [Ak,h.2,List.take_of_length_le (by omega)]
    refine ⟨(f : Int),rfl,(l : Int) + 1,rfl,D,T.ds.map V.int,rfl,s2 _ _ hD,fun R2 H3 s3 k3 => ?_⟩
    rw [FX hfl (by rw [List.length_map]; exact hl),Eb] at k3
    refine ⟨R2,part T.ds f l,rfl,.inr k3,?_⟩
    have := q H3 (s2.trans s3)
    unfold BS at this
    rw [ea] at this
    exact this
 ·exact h.elim
theorem sc_least_stretch : Av ["terms","caps","coals","draws","main","hours","stretches","found"] ["terms"] (Ar s_least_stretch) := Ax
theorem QP (F : Df K mg "least_stretch" s_least_stretch ["terms"]) (T : Tx mg) (D_is_too_much : Fn P w K mg base 1 "is_too_much" ["terms","stretch"] Gw) : Fn P w K mg base 2 "least_stretch" ["terms"] E7 := by
 refine F.fn sc_least_stretch (fun vs H Q E h => ?_) (fun f cdv A outer s H vs Q E hr h => ?_)
 ·unfold E7 at h; split at h; rfl; exact h.elim
 refine ⟨_,(Aj (AR (cy 0) (AC K (n := 4) (Ag (Af 1 sc_least_stretch.nd) (Ag (Af 2 sc_least_stretch.nd) (Ag (Af 3 sc_least_stretch.nd) (Ag (Af 4 sc_least_stretch.nd) AB)))))) (Aj (AE (i := 5) sc_least_stretch.nd rfl (Aw (by rfl)) (AF (Bb K) rfl T.b_len PySem.boot_len (Al (cy 3)))) (Aj (Of (i := 6) ["first","last","hours"] [none,none,some 5] sc_least_stretch.nd rfl (Aw (by rfl)) rfl (BN rfl T.b_range (Al (cy 5))) (AJ.of rfl) (fun _ _ _ _ => (Af 0 (AG (by rfl)))) (fun _ _ _ _ => AX) (fun _ _ _ _ => (IJ rfl T.b_range (Ap (cy 0) (cy 2)))) (fun _ _ _ _ => (Af 1 (AG (by rfl)))) (fun _ _ _ _ => AX) (fun _ _ _ _ => (AZ (Ap (cy 0) (cy 1))))) (Aj (EH (i := 7) ["stretch","terms"] [none,some 0] sc_least_stretch.nd rfl (Aw (by rfl)) rfl (EN K (cy 6)) (AJ.of rfl) (fun _ _ _ _ => (Af 0 (AG (by rfl)))) (fun _ _ _ _ => (D3 (BA (Ai D_is_too_much (hr.mono (by decide)) rfl (Ap (cy 1) (cy 0)))))) (fun _ _ _ _ => (cy 0))) (Am (As (EM (Oh (cy 7)) (Az (Bk K) (cy 7) Ah (fun _ _ => rfl)) BE))))))),?_⟩
 unfold E7 at h
 split at h
 ·rename_i v
  obtain ⟨p,T,ok,r,q⟩ := h
  obtain ⟨A,C,B,D,M,xc,rfl,hA,hC,rc,hB,hD,hM⟩ := Aa.terms r
  have l8 := ok.l8
  refine ⟨A,_,rfl,Ac.of hA,rfl,_,_,rfl,_,_,rfl,_,_,rfl,_,_,rfl,rfl,?_⟩
  refine ⟨D,_,rfl,.inr (Ac.of hD),?_⟩
  rw [List.length_map]
  refine ⟨_,rfl,by omega,by omega,JV (n := T.ds.length) (fun i zs H' => Ab H H' /\ Ad p H' ((B3 T.ds.length i).map pD) zs) ⟨Ab.refl _,.nil⟩ (fun i zs H1 hi h => ?_) fun zs H1 h => ?_⟩
  ·refine ⟨⟨rfl,trivial⟩,fun _ => ?_,fun z => by cases z⟩
   have lz := h.2.len
   rw [List.length_map] at lz
   have ls := J0 (n := T.ds.length) (k := i)
   have lm : T.ds.length * i <= 8 * 8 := Nat.mul_le_mul l8 (by omega)
   have e0 : ((T.ds.length : Int) - (0 + (i : Int))).toNat = T.ds.length - i := by omega
   refine ⟨_,_,rfl,⟨by omega,by omega,by omega,by omega⟩,?_⟩
   rw [e0]
   refine Od (n := T.ds.length - i) (fun j ys H2 => Ab H H2 /\ Ad p H2 ((B3 T.ds.length i ++ CA i j).map pD) ys /\ j <= 8) ⟨h.1,?_,Nat.zero_le _⟩ (fun j ys H2 h => ?_) (fun j ys H2 hj h2 => ?_) fun ys H2 h2 => ?_
   ·have e1 : CA i 0 = [] := rfl
    rw [e1,List.append_nil]; exact h.2
   ·have h3 := h.2.1.len
    rw [List.length_map,List.length_append,JY] at h3
    have := h.2.2
    omega
   ·refine ⟨⟨rfl,rfl,trivial⟩,fun _ t ht => ?_,fun z => by cases z⟩
    have nt := Ab.new (o := .tup [.int (0 + (i : Int)),.int (0 + (i : Int) + (j : Int))]) ht
    refine ⟨h2.1.trans nt,?_,by omega⟩
    rw [Oi,<- List.append_assoc,List.map_append]
    exact Ad.snoc (Ad.ev (Ev.same nt) _ _ h2.2.1) (Aa.tup Ak (.cons (Aa.intE (by simp)) (.cons (Aa.intE (by simp)) .nil)))
   ·refine ⟨h2.1,?_⟩
    rw [JZ]
    exact h2.2.1
  ·intro m hm
   have s1 := h.1.trans (Ab.new (o := .lst zs) hm)
   have r1 := Ad.ev (Ev.new (p := p) (o := .lst zs) hm) _ _ h.2
   have lz := h.2.len
   rw [List.length_map] at lz
   have ls := J0 (n := T.ds.length) (k := T.ds.length)
   have lm : T.ds.length * T.ds.length <= 8 * 8 := Nat.mul_le_mul l8 l8
   refine ⟨m,rfl,⟨zs,An.of Ak⟩,Fz (xs := zs) (fun i ys H' => Ab (upd H1 m (.lst zs)) H' /\ Ad p H' ((((B3 T.ds.length T.ds.length).take i).filter fun q => BS T q.1 q.2).map pD) ys) (by omega) ⟨Ab.refl _,.nil⟩ (fun i ys H' h => ?_) (fun i ys H' _ h => An.of (h.1 _ _ Ak)) (fun i x ys H' hx h => ?_) fun ys H2 h2 => ?_⟩
   ·rw [<- h.2.len,List.length_map]
    exact Nat.le_trans (List.length_filter_le _ _) (by rw [List.length_take]; omega)
   ·obtain ⟨⟨f,l⟩,hf,rd⟩ := Ad.mapGot r1 hx
    obtain ⟨hfl,hl⟩ := J5 (Nat.le_refl _) _ (List.mem_of_getElem? hf)
    refine ⟨⟨rfl,trivial⟩,p,T,f,l,ok,Aa.ev (Ev.same (s1.trans h.1)) _ _ r,Aa.ev (Ev.same h.1) _ _ rd,hfl,hl,fun H3 s3 => ⟨fun c => ?_,fun c => ?_⟩⟩
    ·refine ⟨h.1.trans s3,?_⟩
     rw [A3 hf,List.filter_append,List.filter_cons_of_pos (by exact c),List.map_append]
     exact Ad.snoc (Ad.ev (Ev.same s3) _ _ h.2) (Aa.ev (Ev.same (h.1.trans s3)) _ _ rd)
    ·refine ⟨h.1.trans s3,?_⟩
     rw [A3 hf,List.filter_append,List.filter_cons_of_neg (by rw [show BS T (f,l).1 (f,l).2 = false from c]; decide),List.filter_nil,List.append_nil]
     exact Ad.ev (Ev.same s3) _ _ h.2
   ·intro m2 hm2
    rw [List.take_of_length_le (by omega)] at h2
    have s2 := s1.trans (h2.1.trans (Ab.new (o := .lst ys) hm2))
    have r2 := Ad.ev (Ev.new (p := p) (o := .lst ys) hm2) _ _ h2.2
    refine ⟨m2,ys,rfl,Ak,⟨fun c => ?_,fun c => ?_⟩⟩
    ·cases ys with
     | nil => cases c
     | cons y ys =>
      refine ⟨m2,_,0,y,rfl,rfl,An.of Ak,B9 (j := 0) rfl,q _ _ s2 ?_⟩
      have eq : Ec T = (B3 T.ds.length T.ds.length).filter fun q => BS T q.1 q.2 := rfl
      unfold Bc
      rw [<- eq] at r2
      cases z : Ec T with
      | nil => rw [z] at r2; have := r2.len; cases this
      | cons a l =>
       rw [z] at r2
       unfold Ad at r2
       obtain ⟨x,t,e,rx,_⟩ := r2
       cases e
       exact rx
    ·cases ys with
     | cons y ys => cases c
     | nil =>
      refine q _ _ s2 ?_
      have eq : Ec T = (B3 T.ds.length T.ds.length).filter fun q => BS T q.1 q.2 := rfl
      unfold Bc
      rw [<- eq] at r2
      cases z : Ec T with
      | nil => exact Aa.non
      | cons a l => rw [z] at r2; have := r2.len; cases this
 ·exact h.elim
theorem QQ : Av ["row","at","part"] ["row","at","part"] (Ar s_replaced) := Ax
theorem QR (F : Df K mg "replaced" s_replaced ["row","at","part"]) (T : Tx mg)  : Fn P w K mg base 1 "replaced" ["row","at","part"] E8 := by
 refine F.fn QQ (fun vs H Q E h => ?_) (fun f cdv A outer s H vs Q E hr h => ?_)
 ·unfold E8 at h; split at h; rfl; exact h.elim
 refine ⟨_,(Am (As (Aq DJ (Aq DJ (CU s_tup (cy 0) EC (B8 (cy 1))) (AZ (Al (cy 2)))) (CU s_tup (cy 0) (B8 (Aq AV (cy 1) Ah)) EC)))),?_⟩
 unfold E8 at h
 split at h
 ·rename_i A n y
  obtain ⟨xs,k,rfl,hk,l100,hA,q⟩ := h
  refine ⟨(k : Int),rfl,A,xs,rfl,hA,fun u1 H1 s1 k1 t ht => ?_⟩
  have n1 := Ab.new (o := .tup [y]) ht
  rw [QN (by omega)] at k1
  refine ⟨u1,t,_,_,rfl,rfl,n1 _ _ k1,Ak,(by rw [List.length_take,List.length_singleton]; omega),fun u2 H2 s2 k2 => ?_⟩
  refine ⟨(k : Int) + 1,rfl,A,xs,rfl,(s1.trans (n1.trans s2)) _ _ hA,fun u3 H3 s3 k3 => ?_⟩
  refine ⟨u2,u3,_,_,rfl,rfl,s3 _ _ k2,k3,?_,fun u4 H4 s4 k4 => ?_⟩
  ·have := Fr xs (some ((k : Int) + 1)) none
   rw [List.length_append,List.length_take,List.length_singleton]
   omega
  ·refine q u4 H4 (s1.trans (n1.trans (s2.trans (s3.trans s4)))) ?_
   rw [k4]
   congr 2
   have e : A7 xs (some ((k : Int) + 1)) none = xs.drop (k + 1) := by
    unfold A7
    rw [show ((k : Int) + 1) = ((k + 1 : Nat) : Int) by omega,HT.sIx_nat,Nat.min_eq_left (by omega)]
    show (xs.drop (k + 1)).take (xs.length - (k + 1)) = _
    rw [List.take_of_length_le (by rw [List.length_drop]; exact Nat.le_refl _)]
   rw [e,List.set_eq_take_append_cons_drop,if_pos hk,List.append_assoc]; rfl
 ·exact h.elim
theorem sc_coal_under : Av ["terms","floor","prices"] ["terms"] (Ar s_coal_under) := Ax
abbrev Db (P : Program) (w : World) (K : PySem.W.Frag) (mg : Str -> Option Value) (base : Heap) : Prop := Fn P w K mg base 4 "coal_under" ["terms"] Ig
theorem QS (F : Df K mg "coal_under" s_coal_under ["terms"]) (T : Tx mg) (D_highest_floor : Fn P w K mg base 3 "highest_floor" ["terms"] E6) (D_least_stretch : Fn P w K mg base 2 "least_stretch" ["terms"] E7) : Db P w K mg base := by
 refine F.fn sc_coal_under (fun vs H Q E h => ?_) (fun f cdv A outer s H vs Q E hr h => ?_)
 ·unfold Ig at h; split at h; rfl; exact h.elim
 refine ⟨_,(Aj (AU (AN Ez (Ai D_least_stretch (hr.mono (by decide)) rfl (Al (cy 0))) BE (AL _)) (Am (As BE)) AT) (Aj (AR (Ai D_highest_floor (hr.mono (by decide)) rfl (Al (cy 0))) (AC K (n := 2) (Ag (Af 1 sc_coal_under.nd) (Ag (Af 2 sc_coal_under.nd) AB)))) (Am (As (cy 1))))),?_⟩
 unfold Ig at h
 split at h
 ·rename_i v
  obtain ⟨p,T,fl,r,q1,q2⟩ := h
  refine ⟨p,T,fl.ok,r,fun u H1 s1 ru => ?_⟩
  cases z : Bc T with
  | none =>
   rw [z] at ru
   have eu : u = .non := by unfold HG at ru; unfold Aa at ru; exact ru
   subst eu
   refine ⟨rfl,⟨fun c => by simp at c,fun _ => ?_⟩⟩
   refine ⟨p,T,fl,Aa.ev (Ev.same s1) _ _ r,fun y H2 f ps s2 ry hf => ?_⟩
   obtain ⟨a,b,rfl,ha,hb⟩ := Aa.tailShape ry
   exact ⟨a,_,rfl,Ac.of ha,rfl,_,_,rfl,_,_,rfl,rfl,q2 z f ps H2 hf (s1.trans s2)⟩
  | some s0 =>
   rw [z] at ru
   have nu : u ≠ .non := by
    obtain ⟨A,eA,_⟩ := Aa.pair ru
    rw [eA]; intro e; cases e
   refine ⟨rfl,⟨fun _ => q1 (by rw [z]; simp) H1 s1,fun c => ?_⟩⟩
   simp [nu] at c
 ·exact h.elim
theorem QT : Av ["row","at","units"] ["row","at","units"] (Ar s_added) := Ax
theorem QU (F : Df K mg "added" s_added ["row","at","units"]) (T : Tx mg) (D_replaced : Fn P w K mg base 1 "replaced" ["row","at","part"] E8) : Fn P w K mg base 2 "added" ["row","at","units"] Ep := by
 refine F.fn QT (fun vs H Q E h => ?_) (fun f cdv A outer s H vs Q E hr h => ?_)
 ·unfold Ep at h; split at h; rfl; exact h.elim
 refine ⟨_,(Am (As (Ai D_replaced (hr.mono (by decide)) rfl (AD (cy 0) (cy 1) (Aq AV (Az (AK K) (cy 0) (cy 1) (fun _ _ => rfl)) (cy 2)))))),?_⟩
 unfold Ep at h
 split at h
 ·rename_i A n u
  obtain ⟨ns,k,rfl,hk,l100,hA,q⟩ := h
  refine ⟨A,_,_,.int (ns.getD k 0),rfl,rfl,Ac.of hA,Bw hk,ns.map V.int,k,rfl,by rw [List.length_map]; exact hk,by rw [List.length_map]; exact l100,hA,fun B H' s' kB => q B H' s' ?_⟩
  rw [kB,List.map_set]
 ·exact h.elim
end
end MF
end
section
namespace MF
open PySem PySem.Spec PyProof.Rows L2
variable {j n i k hour : Nat} {ras : List Addr} {T : TM} {H0 H H' : Hp} {zs : List V} {p : Addr}
structure Er (H : Hp) (Fa Ma : Addr) (ras : List Addr) (f : List (List Int)) (ms : List Int) : Prop where
 a : H Fa = some (.lst (ras.map V.ref))
 r : ∀ i,i < ras.length -> H (ras.getD i 0) = some (.lst ((f.getD i []).map V.int))
 l : ras.length = f.length
 nd : ∀ i j,i < ras.length -> j < ras.length -> ras.getD i 0 = ras.getD j 0 -> i = j
 m : H Ma = some (.lst (ms.map V.int))
 nm : ∀ i,i < ras.length -> ras.getD i 0 ≠ Ma
 nf : ∀ i,i < ras.length -> ras.getD i 0 ≠ Fa
 fm : Fa ≠ Ma
def E9 (Ma : Addr) (ras : List Addr) (H H' : Hp) : Prop := ∀ b o,H b = some o -> b ≠ Ma -> b ∉ ras -> H' b = some o
def Gx : Sp := fun vs H Q _ => match vs with | [.ref M,.int hi,.int a,.int h] => ∃ (ms : List Int) (a' h' : Nat),a = (a' : Int) /\ h = (h' : Int) /\ h' < ms.length /\ ms.length <= 8 /\ H M = some (.lst (ms.map V.int)) /\ ∀ H',Ab H H' -> Q (.int (Co ms hi a' h')) H' | _ => False
def Gy : Sp := fun vs H Q _ => match vs with | [v,.ref Fa,.ref Ma,.int h] => ∃ p T hour f ms ras,A9 T /\ T.lo <= T.hi /\ Bc T = none /\ h = ((hour : Nat) : Int) /\ Aa p H T.d v /\ Er H Fa Ma ras f ms /\ Gr T f ms /\ hour < ms.length /\ ms.getD hour 0 < T.lo /\ ∀ H' f' ms',Er H' Fa Ma ras f' ms' -> Gr T f' ms' -> ms.getD hour 0 < ms'.getD hour 0 -> (∀ k,k < ms.length -> ms.getD k 0 <= ms'.getD k 0) -> (∀ ps,Opt T f ms hour ps -> ∃ ps',Opt T f' ms' hour ps') -> ms'.getD hour 0 <= T.lo -> E9 Ma ras H H' -> Q .non H' | _ => False
def Gz : Sp := fun vs H Q _ => match vs with | [v] => ∃ p T,A9 T /\ T.lo <= T.hi /\ T.st <= T.hi /\ Bc T = none /\ Aa p H T.d v /\ ∀ A H' f ms ps,Ab H H' -> Gr T f ms -> (∀ k,k < ms.length -> T.lo <= ms.getD k 0) -> Opt T f ms T.ds.length ps -> Aa p H' (FD f) (.ref A) -> Q (.ref A) H' | _ => False
theorem QV {ms : List Int} {a h : Nat} : A7 (ms.map V.int) (some (a : Int)) (some (h : Int)) = ((ms.take h).drop a).map V.int := by
 unfold A7
 rw [HT.sIx_nat,HT.sIx_nat,List.length_map,<- List.map_drop,<- List.map_take]
 refine congrArg (List.map V.int) (List.ext_getElem? fun k => ?_)
 rw [List.drop_take,List.getElem?_take,List.getElem?_take,List.getElem?_drop,List.getElem?_drop]
 by_cases c : min a ms.length + k < ms.length
 ·by_cases d : a <= ms.length
  ·rw [Nat.min_eq_left d]
   by_cases e : k < h - a
   ·rw [if_pos e,if_pos (by omega)]
   ·rw [if_neg e,if_neg (by omega)]
  ·omega
 ·have n1 : ms[min a ms.length + k]? = none := List.getElem?_eq_none (by omega)
  have n2 : ms[a + k]? = none := List.getElem?_eq_none (by omega)
  rw [n1,n2]; split <;> split <;> rfl
theorem Ih {ms : List Int} {g : Int -> V} {x : V} (h : (ms.map g)[j]? = some x) : ∃ m,ms[j]? = some m /\ x = g m := by
 rw [List.getElem?_map] at h
 cases z : ms[j]? with
 | none => rw [z] at h; cases h
 | some m => rw [z] at h; cases h; exact ⟨m,rfl,rfl⟩
theorem QW {b : Addr} (h : b ∈ ras) : ∃ k,k < ras.length /\ ras.getD k 0 = b := by
 obtain ⟨k,hk⟩ := List.getElem?_of_mem h
 exact ⟨k,(List.getElem?_eq_some_iff.mp hk).1,by rw [List.getD_eq_getElem?_getD,hk]; rfl⟩
theorem Dc {α : Type} {x d : α} (h : i < n) : (List.replicate n x).getD i d = x := by
 rw [List.getD_eq_getElem?_getD,List.getElem?_replicate,if_pos h]; rfl
theorem K4 : ∀ n : Nat,(List.replicate n (0 : Int)).sum = 0
 | 0 => rfl
 | n + 1 => by rw [List.replicate_succ,List.sum_cons,K4 n]; rfl
theorem Ii {ds : List Int} (h : k < ds.length) : (ds.take (k + 1)).sum = (ds.take k).sum + ds.getD k 0 := by
 rw [A3 (List.getElem?_eq_getElem h),List.sum_append,List.getD_eq_getElem?_getD,List.getElem?_eq_getElem h]
 show _ + (ds[k] + 0) = _ + ds[k]
 omega
def Dd (T : TM) : List Int := (List.range T.ds.length).map fun k => T.st - (T.ds.take (k + 1)).sum
theorem Fb (h : k < T.ds.length) : (Dd T).getD k 0 = T.st - (T.ds.take (k + 1)).sum := by
 unfold Dd
 rw [List.getD_eq_getElem?_getD,List.getElem?_map,List.getElem?_range h]; rfl
theorem QX (fl : A9 T) : Gr T (List.replicate T.ds.length (List.replicate T.co.length 0)) (Dd T) := by
 have lm : (Dd T).length = T.ds.length := by unfold Dd; rw [List.length_map,List.length_range]
 refine ⟨List.length_replicate,fun i hi => ?_,fun i b hi hb => ?_,lm,fun k hk => ?_⟩
 ·rw [List.length_replicate] at hi
  rw [Dc hi,List.length_replicate]
 ·rw [List.length_replicate] at hi
  rw [Dc hi,Dc hb]
  refine ⟨Int.le_refl _,?_⟩
  have c := fl.c _ (getD_mem (l := T.cs) (d := []) (i := i) (by rw [fl.ok.lc]; exact hi))
  exact (c.2 _ (getD_mem (by rw [c.1]; exact hb))).1
 ·rw [lm] at hk
  rw [Fb hk,Dc hk,K4,Ii hk]
  by_cases k0 : k = 0
  ·subst k0
   rw [if_pos rfl,List.take_zero,List.sum_nil]; omega
  ·rw [if_neg k0,Fb (by omega),show k - 1 + 1 = k by omega]; omega
theorem QY (fl : A9 T) (sh : T.st <= T.hi) : Opt T (List.replicate T.ds.length (List.replicate T.co.length 0)) (Dd T) 0 (List.replicate T.ds.length 0) := by
 have z : ∀ k,(List.replicate T.ds.length (0 : Int)).getD k 0 = 0 := fun k => by
  by_cases h : k < T.ds.length
  ·exact Dc h
  ·exact F6 (by rw [List.length_replicate]; omega)
 have dp : ∀ k,k < T.ds.length -> 0 <= T.ds.getD k 0 := fun k hk => (fl.d _ (getD_mem hk)).1
 have sp : ∀ k,k <= T.ds.length -> 0 <= (T.ds.take k).sum := fun k => by
  induction k with
  | zero => intro _; exact Int.le_refl _
  | succ k ih => intro hk; rw [Ii (by omega)]; have := ih (by omega); have := dp k (by omega); omega
 refine ⟨List.length_replicate,fun x hx => ?_,fun k _ => z k,fun k b hk hb => ⟨fun c => ?_,fun _ => ?_⟩,fun k hk => absurd hk (Nat.not_lt_zero _),fun k hk => absurd hk (Nat.not_lt_zero _),fun k hk => ?_,fun k _ hk => ?_⟩
 ·rw [(List.mem_replicate.mp hx).2]; exact List.mem_cons_self
 ·rw [z] at c
  have := (fl.o1 _ (getD_mem (d := 0) hb)).1
  omega
 ·rw [Dc hk,Dc hb]
 ·rw [Fb hk]
  have := sp (k + 1) (by omega)
  omega
 ·rw [Fb hk,Fb (by omega),Ii hk]
  have := dp (k + 1) hk
  omega
structure Rows0 (H0 H : Hp) (i n : Nat) (zs : List V) : Prop where
 ex : ∃ ras : List Addr,zs = ras.map V.ref /\ ras.length = i /\ (∀ k,k < i -> H0 (ras.getD k 0) = none /\ H (ras.getD k 0) = some (.lst ((List.replicate n (0 : Int)).map V.int))) /\ ∀ j k,j < i -> k < i -> ras.getD j 0 = ras.getD k 0 -> j = k
theorem Rows0.zero : Rows0 H0 H 0 n [] := ⟨[],rfl,rfl,fun k hk => absurd hk (Nat.not_lt_zero _),fun j k hj => absurd hj (Nat.not_lt_zero _)⟩
theorem Rows0.len (h : Rows0 H0 H i n zs) : zs.length = i := by
 obtain ⟨ras,rfl,l,_⟩ := h.ex
 rw [List.length_map,l]
theorem Rows0.put {L : Addr} (h : Rows0 H0 H i n zs) (s0 : Ab H0 H) (s : Ab H H') (n0 : H L = none) (k : H' L = some (.lst ((List.replicate n (0 : Int)).map V.int))) : Rows0 H0 H' (i + 1) n (zs ++ [.ref L]) := by
 obtain ⟨ras,rfl,l,h1,h2⟩ := h.ex
 have g1 : ∀ c,c < i -> (ras ++ [L]).getD c 0 = ras.getD c 0 := fun c hc => by rw [List.getD_eq_getElem?_getD,List.getElem?_append_left (by omega),List.getD_eq_getElem?_getD]
 have g2 : (ras ++ [L]).getD i 0 = L := by rw [List.getD_eq_getElem?_getD,List.getElem?_append_right (by omega),l,Nat.sub_self]; rfl
 have ne : ∀ c,c < i -> ras.getD c 0 ≠ L := fun c hc e => by
  have := (h1 c hc).2
  rw [e,n0] at this; cases this
 refine ⟨ras ++ [L],by rw [List.map_append]; rfl,by rw [List.length_append,l]; rfl,fun c hc => ?_,fun a b ha hb e => ?_⟩
 ·by_cases e : c = i
  ·rw [e,g2]
   refine ⟨?_,k⟩
   cases z : H0 L with
   | none => rfl
   | some o => have := s0 _ _ z; rw [n0] at this; cases this
  ·rw [g1 c (by omega)]
   exact ⟨(h1 c (by omega)).1,s _ _ (h1 c (by omega)).2⟩
 ·by_cases ea : a = i
  ·by_cases eb : b = i
   ·rw [ea,eb]
   ·rw [ea,g2,g1 b (by omega)] at e; exact absurd e.symm (ne b (by omega))
  ·by_cases eb : b = i
   ·rw [eb,g2,g1 a (by omega)] at e; exact absurd e (ne a (by omega))
   ·rw [g1 a (by omega),g1 b (by omega)] at e; exact h2 a b (by omega) (by omega) e
theorem K9 {ns : List Int} {b : Nat} (h : b < ns.length) : (ns.map V.int)[b]? = some (.int (ns.getD b 0)) := by
 rw [List.getElem?_map,List.getElem?_eq_getElem h,List.getD_eq_getElem?_getD,List.getElem?_eq_getElem h]; rfl
theorem Lc {b : Nat} (h : b < n) : CI n (b : Int) = some b := by
 unfold CI
 rw [if_pos (Int.natCast_nonneg b),if_pos (by omega),Int.toNat_natCast]
theorem Dy {t : Cq -> L2.St -> Hp -> Prop} {D : Cq} {σ σ' : L2.St} (e : σ = σ') (h : t D σ' H) : t D σ H := by rw [e]; exact h
theorem Ij (h : i < ras.length) : Ci (ras.map V.ref) (i : Int) = some (.ref (ras.getD i 0)) := by
 refine B9 ?_
 rw [List.getElem?_map,List.getElem?_eq_getElem h,List.getD_eq_getElem?_getD,List.getElem?_eq_getElem h]; rfl
theorem Aa.capRow {cs : List (List Int)} {xc : List V} {C : Addr} (rc : Ad p H (cs.map AQ) xc) (hC : H C = some (.tup xc)) {i : Nat} (hi : i < cs.length) : ∃ cr,Ci xc (i : Int) = some (.ref cr) /\ H cr = some (.tup ((cs.getD i []).map V.int)) := by
 have lx := rc.len
 rw [List.length_map] at lx
 obtain ⟨x,hx⟩ : ∃ x,xc[i]? = some x := ⟨xc[i],List.getElem?_eq_getElem (by omega)⟩
 obtain ⟨g,hg,rg⟩ := Ad.mapGot rc hx
 have e : cs.getD i [] = g := by rw [List.getD_eq_getElem?_getD,hg]; rfl
 obtain ⟨cr,xs,rfl,h1,h2⟩ := Aa.shape rg
 rw [Ad.ints h2] at h1
 exact ⟨cr,B9 hx,by rw [e]; exact h1⟩
def Ld (T : TM) (q : Nat × Nat) : PyData := .tuple [.int (T.co.getD q.2 0),.int (q.1 : Int),.int (q.2 : Int)]
structure Cands (T : TM) (f : List (List Int)) (ms : List Int) (hour : Nat) (p : Addr) (H : Hp) (i j : Nat) (zs : List V) : Prop where
 ex : ∃ cs : List (Nat × Nat),Ad p H (cs.map (Ld T)) zs /\ cs.length <= i * 4 + j /\ (∀ q ∈ cs,q.1 <= hour /\ q.2 < T.co.length /\ CN T f ms hour q.1 q.2) /\ ∀ a b,(a < i \/ (a = i /\ b < j)) -> b < T.co.length -> CN T f ms hour a b -> (a,b) ∈ cs
theorem Cands.zero {f : List (List Int)} {ms : List Int} : Cands T f ms hour p H 0 0 [] := ⟨[],.nil,Nat.le_refl _,fun q hq => (nomatch hq),fun a b h => by omega⟩
theorem Cands.row {f : List (List Int)} {ms : List Int} (c : Cands T f ms hour p H i T.co.length zs) (o4 : T.co.length <= 4) : Cands T f ms hour p H (i + 1) 0 zs := by
 obtain ⟨cs,rs,l,h1,h2⟩ := c.ex
 refine ⟨cs,rs,by omega,h1,fun a b h hb m => h2 a b ?_ hb m⟩
 omega
theorem Cands.skip {f : List (List Int)} {ms : List Int} (c : Cands T f ms hour p H i j zs) (s : Ab H H') (no : ¬ CN T f ms hour i j) : Cands T f ms hour p H' i (j + 1) zs := by
 obtain ⟨cs,rs,l,h1,h2⟩ := c.ex
 refine ⟨cs,Ad.ev (Ev.same s) _ _ rs,by omega,h1,fun a b h hb m => ?_⟩
 by_cases e : a = i /\ b = j
 ·rw [e.1,e.2] at m; exact absurd m no
 ·exact h2 a b (by omega) hb m
theorem Cands.put {f : List (List Int)} {ms : List Int} {u : V} (c : Cands T f ms hour p H i j zs) (s : Ab H H') (hi : i <= hour) (hj : j < T.co.length) (m : CN T f ms hour i j) (ru : Aa p H' (Ld T (i,j)) u) : Cands T f ms hour p H' i (j + 1) (zs ++ [u]) := by
 obtain ⟨cs,rs,l,h1,h2⟩ := c.ex
 refine ⟨cs ++ [(i,j)],by rw [List.map_append]; exact Ad.append (Ad.ev (Ev.same s) _ _ rs) (.cons ru .nil),by rw [List.length_append]; simp; omega,fun q hq => ?_,fun a b h hb m' => ?_⟩
 ·rcases List.mem_append.mp hq with hq | hq
  ·exact h1 q hq
  ·rw [List.mem_singleton.mp hq]; exact ⟨hi,hj,m⟩
 ·by_cases e : a = i /\ b = j
  ·rw [e.1,e.2]; exact List.mem_append_right _ (List.mem_singleton.mpr rfl)
  ·exact List.mem_append_left _ (h2 a b (by omega) hb m')
section
variable {P : Program} {w : World} {K : PySem.W.Frag} {mg : Str -> Option Value} {base : Heap}
theorem QZ : Av ["mains","high","first","hour"] ["mains","high","first","hour"] (Ar s_room_between) := Ax
theorem Q0 (F : Df K mg "room_between" s_room_between ["mains","high","first","hour"]) (T : Tx mg)  : Fn P w K mg base 1 "room_between" ["mains","high","first","hour"] Gx := by
 refine F.fn QZ (fun vs H Q E h => ?_) (fun f cdv A outer s H vs Q E hr h => ?_)
 ·unfold Gx at h; split at h; rfl; exact h.elim
 refine ⟨_,(Am (As (Px rfl rfl T.b_min (Al (A8 ["main","high"] [none,some 1] rfl (EN K (CU (JI K) (cy 0) (B8 (cy 2)) (B8 (cy 3)))) (AJ.of rfl) (fun _ _ _ _ => (Af 0 (AG (by rfl)))) (fun _ _ _ _ => AX) (fun _ _ _ _ => (Aq AY (cy 1) (cy 0))))) (Mf (Aq AY (cy 1) (Az (Bk K) (cy 0) (cy 3) (fun _ _ => rfl))) Me)))),?_⟩
 unfold Gx at h
 split at h
 ·rename_i M hi a h'
  obtain ⟨ms,a',h0,rfl,rfl,lt,l8,hM,q⟩ := h
  refine ⟨(a' : Int),rfl,(h0 : Int),rfl,M,_,rfl,An.of hM,fun L hL => ?_⟩
  have nL := Ab.new (o := .lst (A7 (ms.map V.int) (some (a' : Int)) (some (h0 : Int)))) hL
  have ec : A7 (ms.map V.int) (some (a' : Int)) (some (h0 : Int)) = ((ms.take h0).drop a').map V.int := QV
  have kL : upd H L (.lst (A7 (ms.map V.int) (some (a' : Int)) (some (h0 : Int)))) L = some (.lst (((ms.take h0).drop a').map V.int)) := by rw [Ak,ec]
  generalize upd H L (.lst (A7 (ms.map V.int) (some (a' : Int)) (some (h0 : Int)))) = H1 at nL kL ⊢
  have ll : ((ms.take h0).drop a').length <= 8 := by rw [List.length_drop,List.length_take]; omega
  refine ⟨L,rfl,⟨_,An.of kL⟩,Fz (xs := ((ms.take h0).drop a').map V.int) (fun j zs H' => Ab H1 H' /\ zs = (((ms.take h0).drop a').take j).map fun m => V.int (hi - m)) (by rw [List.length_map]; omega) ⟨Ab.refl _,rfl⟩ (fun j zs H' h => by rw [h.2,List.length_map,List.length_take]; omega) (fun j zs H' _ h => An.of (h.1 _ _ kL)) (fun j x zs H' hx h => ?_) fun zs H' h => ?_⟩
  ·obtain ⟨m,hm,rfl⟩ := Ih hx
   refine ⟨⟨rfl,trivial⟩,fun _ => ⟨h.1,?_⟩,fun z => by cases z⟩
   rw [A3 hm,List.map_append,h.2]; rfl
  intro L2 hL2
  have n2 := Ab.new (o := .lst zs) hL2
  have k2 : upd H' L2 (.lst zs) L2 = some (.lst ((((ms.take h0).drop a').map (hi - ·)).map V.int)) := by
   rw [Ak,h.2,List.length_map,List.take_length,List.map_map]; rfl
  have s2 := nL.trans (h.1.trans n2)
  generalize upd H' L2 (.lst zs) = H2 at n2 k2 s2 ⊢
  refine ⟨M,_,(h0 : Int),.int (ms.getD h0 0),rfl,rfl,An.of (s2 _ _ hM),Bw lt,L2,_,_,rfl,k2,rfl,fun e => ?_,fun Mn hm hl => ?_⟩
  ·rw [<- Pd e]; exact q _ s2
  ·rw [Pc hm hl]; exact q _ s2
 ·exact h.elim
theorem sc_make_cheapest : Av ["terms","firing","mains","hour","caps","coals","draws","low","high","start","coal","at","boiler","lacking","spare","more","later"] ["terms","firing","mains","hour"] (Ar s_make_cheapest) := Ax
theorem Q1 (F : Df K mg "make_cheapest" s_make_cheapest ["terms","firing","mains","hour"]) (T : Tx mg) (D_room_between : Fn P w K mg base 1 "room_between" ["mains","high","first","hour"] Gx) : Fn P w K mg base 2 "make_cheapest" ["terms","firing","mains","hour"] Gy := by
 refine F.fn sc_make_cheapest (fun vs H Q E h => ?_) (fun f cdv A outer s H vs Q E hr h => ?_)
 ·unfold Gy at h; split at h; rfl; exact h.elim
 refine ⟨_,(Aj (AR (cy 0) (AC K (n := 4) (Ag (Af 4 sc_make_cheapest.nd) (Ag (Af 5 sc_make_cheapest.nd) (Ag (Af 6 sc_make_cheapest.nd) (Ag (AC K (n := 3) (Ag (Af 7 sc_make_cheapest.nd) (Ag (Af 8 sc_make_cheapest.nd) (Ag (Af 9 sc_make_cheapest.nd) AB)))) AB)))))) (Aj (AR (AF (O1 rfl hr) rfl T.b_min boot_min (Al (N9 ["at","boiler","coal","mains","high","hour","firing","caps","coals"] [none,none,none,some 2,some 8,some 3,some 1,some 4,some 5] rfl (BN rfl T.b_range (Al (Aq AV (cy 3) Ah))) (AJ.of rfl) (fun _ _ _ _ => (Af 0 (AG (by rfl)))) (fun _ _ _ _ => AX) (fun _ _ _ _ => (DL P w K rfl T.b_enumerate (Al (cy 8)))) (fun _ _ _ _ => (AC K (n := 2) (Ag (Af 1 (AG (by rfl))) (Ag (Af 2 (AG (by rfl))) AB)))) (fun _ _ _ _ => (D3 (PW.pt (DI (AN Cz (Az (Bk K) (Az (Bk K) (cy 6) (cy 0) (fun _ _ => rfl)) (cy 1) (fun _ _ => rfl)) (Az (AK K) (Az (AK K) (cy 7) (cy 0) (fun _ _ => rfl)) (cy 1) (fun _ _ => rfl)) (AL _)) (DV (AN FK (Ai D_room_between (hr.mono (by decide)) rfl (Bl (cy 3) (cy 4) (cy 0) (cy 5))) Ah (AL _))))))) (fun _ _ _ _ => (C3 (AD (cy 2) (cy 0) (cy 1))))))) (AC K (n := 3) (Ag (Af 10 sc_make_cheapest.nd) (Ag (Af 11 sc_make_cheapest.nd) (Ag (Af 12 sc_make_cheapest.nd) AB))))) (Aj (AE (i := 13) sc_make_cheapest.nd rfl (Aw (by rfl)) (Aq AY (cy 7) (Az (Bk K) (cy 2) (cy 3) (fun _ _ => rfl)))) (Aj (AE (i := 14) sc_make_cheapest.nd rfl (Aw (by rfl)) (Aq AY (Az (AK K) (Az (AK K) (cy 4) (cy 11) (fun _ _ => rfl)) (cy 12) (fun _ _ => rfl)) (Az (Bk K) (Az (Bk K) (cy 1) (cy 11) (fun _ _ => rfl)) (cy 12) (fun _ _ => rfl)))) (Aj (AE (i := 15) sc_make_cheapest.nd rfl (Aw (by rfl)) (AF (Py rfl) rfl T.b_min boot_min (AD (cy 13) (cy 14) (Ai D_room_between (hr.mono (by decide)) rfl (Bl (cy 2) (cy 8) (cy 11) (cy 3)))))) (Aj (ID (Az (Bk K) (cy 1) (cy 11) (fun _ _ => rfl)) (cy 12) KK (cy 15) G6 Fs) (Am (BG PassesOwn.never rfl (IJ rfl T.b_range (Ap (cy 11) (AF (Bb K) rfl T.b_len PySem.boot_len (Al (cy 2))))) (Af 16 sc_make_cheapest.nd) (Am (ID (cy 2) (cy 16) KK (cy 15) G6 Fs)))))))))),?_⟩
 unfold Gy at h
 split at h
 ·rename_i v Fa Ma h'
  obtain ⟨p,T,hour,f,ms,ras,fl,lh,no,rfl,r,fi,gr,hh,low,q⟩ := h
  obtain ⟨A,C,B,D,M,xc,rfl,hA,hC,rc,hB,hD,hM⟩ := Aa.terms r
  have l8 := fl.ok.l8
  have o4 := fl.o
  have lm := gr.lm
  have lf := gr.lf
  have lc := fl.ok.lc
  have lr : ras.length = T.ds.length := by rw [fi.l,lf]
  have lx := rc.len
  rw [List.length_map] at lx
  refine ⟨A,_,rfl,Ac.of hA,rfl,_,_,rfl,_,_,rfl,_,_,rfl,_,_,rfl,M,_,rfl,Ac.of hM,rfl,_,_,rfl,_,_,rfl,_,_,rfl,rfl,rfl,?_⟩
  refine Dy (σ' := [some (.ref A),some (.ref Fa),some (.ref Ma),some (.int (hour : Int)),some (.ref C),some (.ref B),some (.ref D),some (.int T.lo),some (.int T.hi),some (.int T.st),none,none,none,none,none,none,none]) rfl ?_
  refine ⟨_,rfl,by omega,by omega,?_⟩
  rw [show ((hour : Int) + 1).toNat = hour + 1 by omega]
  refine JV (n := hour + 1) (fun i zs H' => Ab H H' /\ Cands T f ms hour p H' i 0 zs) ⟨Ab.refl _,Cands.zero⟩ (fun i zs H1 hi h => ?_) fun zs H1 h => ?_
  ·refine ⟨⟨rfl,rfl,rfl,rfl,rfl,rfl,trivial⟩,fun _ => ?_,fun z => by cases z⟩
   refine ⟨B,rfl,⟨_,Ac.of (h.1 _ _ hB)⟩,Oa (xs := T.co.map V.int) (fun j ys H2 => Ab H H2 /\ j <= T.co.length /\ Cands T f ms hour p H2 i j ys) ⟨h.1,Nat.zero_le _,h.2⟩ (fun j ys H2 h2 => ?_) (fun j ys H2 h2 => Ac.of (h2.1 _ _ hB)) (fun j x ys H2 U hx h2 hU => ?_) fun ys H2 h2 => ?_⟩
   ·obtain ⟨cs,rs,l,_⟩ := h2.2.2.ex
    have := rs.len
    rw [List.length_map] at this
    have : i * 4 <= 7 * 4 := Nat.mul_le_mul_right 4 (by omega)
    omega
   ·obtain ⟨c,hc,rfl⟩ := Ih hx
    have hj : j < T.co.length := (List.getElem?_eq_some_iff.mp hc).1
    have nU := Ab.new (o := .tup [.int (j : Int),.int c]) hU
    have s2 := h2.1.trans nU
    have kU : upd H2 U (.tup [.int (j : Int),.int c]) U = some (.tup [.int (j : Int),.int c]) := Ak
    generalize upd H2 U (.tup [.int (j : Int),.int c]) = H3 at nU s2 kU ⊢
    have hif : i < ras.length := by omega
    have hic : i < T.cs.length := by omega
    have lrow := gr.row i (by omega)
    have lcap := (fl.c _ (getD_mem (l := T.cs) (d := []) hic)).1
    obtain ⟨cr,hcr,hcd⟩ := Aa.capRow rc hC hic
    refine ⟨U,_,rfl,Ac.of kU,rfl,_,_,rfl,_,_,rfl,rfl,⟨rfl,rfl,rfl,rfl,rfl,rfl,rfl,trivial⟩,?_⟩
    rw [show (0 + (i : Int)) = (i : Int) by omega]
    refine ⟨Fa,_,(i : Int),.ref (ras.getD i 0),rfl,rfl,An.of (s2 _ _ fi.a),Ij hif,ras.getD i 0,_,(j : Int),.int ((f.getD i []).getD j 0),rfl,rfl,An.of (s2 _ _ (fi.r i hif)),Bw (by omega),C,_,(i : Int),.ref cr,rfl,rfl,Ac.of (s2 _ _ hC),hcr,cr,_,(j : Int),.int ((T.cs.getD i []).getD j 0),rfl,rfl,Ac.of (s2 _ _ hcd),Bw (by omega),?_⟩
    have ec : T.co.getD j 0 = c := by rw [List.getD_eq_getElem?_getD,hc]; rfl
    refine ⟨fun c1 => ?_,fun c1 => ⟨fun z => (by cases z),fun _ => ⟨s2,hj,h2.2.2.skip nU fun m => absurd m.1 (of_decide_eq_false c1)⟩⟩⟩
    refine ⟨ms,i,hour,rfl,rfl,hh,by omega,s2 _ _ fi.m,fun H4 s4 => ⟨fun c2 => fun u H5 s5 k5 => ?_,fun c2 => ⟨s2.trans s4,hj,h2.2.2.skip (nU.trans s4) fun m => absurd m.2 (of_decide_eq_false c2)⟩⟩⟩
    refine ⟨s2.trans (s4.trans s5),hj,h2.2.2.put (nU.trans (s4.trans s5)) (by omega) hj ⟨of_decide_eq_true c1,of_decide_eq_true c2⟩ ?_⟩
    show Aa p H5 (.tuple [.int (T.co.getD j 0),.int (i : Int),.int (j : Int)]) (.ref u)
    rw [ec]
    exact Aa.tup k5 (.cons Aa.int (.cons Aa.int (.cons Aa.int .nil)))
   ·refine ⟨h2.1,Cands.row ?_ o4⟩
    have := h2.2.2
    rw [List.length_map] at this
    exact this
  ·intro L hL
   obtain ⟨cs,rs,lcs,h1,h2⟩ := h.2.ex
   have nL := Ab.new (o := .lst zs) hL
   have kL : upd H1 L (.lst zs) L = some (.lst zs) := Ak
   have s2 := h.1.trans nL
   generalize upd H1 L (.lst zs) = H2 at nL kL s2 ⊢
   have rs2 := Ad.ev (Ev.same (p := p) nL) _ _ rs
   have rs3 : Ad p H2 ((cs.map fun q => (T.co.getD q.2 0,[PyData.int (q.1 : Int),PyData.int (q.2 : Int)])).map fun q => .tuple (.int q.1 :: q.2)) zs := by rw [List.map_map]; exact rs2
   refine ⟨p,L,_,_,rfl,kL,rs3,?_,?_,fun k qq u hq hv le => ?_⟩
   ·obtain ⟨a,b,ha,hb,m⟩ := Pf fl lh no gr hh low
    intro e
    have e2 := List.map_eq_nil_iff.mp e
    have := h2 a b (.inl (by omega)) hb m
    rw [e2] at this; cases this
   ·intro q1 m1 q2 m2
    obtain ⟨_,_,rfl⟩ := List.mem_map.mp m1
    obtain ⟨_,_,rfl⟩ := List.mem_map.mp m2
    exact .cons (.int _ _) (.cons (.int _ _) .nil)
   obtain ⟨⟨a,b⟩,hg,rg⟩ := Ad.mapGot rs2 hv
   obtain ⟨ha0,hb0,may0⟩ := h1 _ (List.mem_of_getElem? hg)
   have ha : a <= hour := ha0
   have hb : b < T.co.length := hb0
   have may : CN T f ms hour a b := may0
   clear ha0 hb0 may0
   have best : ∀ a' b',a' <= hour -> b' < T.co.length -> CN T f ms hour a' b' -> T.co.getD b 0 <= T.co.getD b' 0 := fun a' b' h1' h2' mm => by
    have mem := h2 a' b' (.inl (by omega)) h2' mm
    have eq : qq = (T.co.getD b 0,[PyData.int (a : Int),PyData.int (b : Int)]) := by
     rw [List.getElem?_map,hg] at hq
     exact (Option.some.inj hq).symm
    have := le _ (List.mem_map.mpr ⟨_,mem,rfl⟩)
    rw [eq] at this
    exact this
   obtain ⟨t,xs,rfl,ht,rx⟩ := Aa.shape rg
   rw [Ad.ints (ns := [T.co.getD b 0,(a : Int),(b : Int)]) rx] at ht
   have hif : a < ras.length := by omega
   have hic : a < T.cs.length := by omega
   have lrow := gr.row a (by omega)
   have lcap := (fl.c _ (getD_mem (l := T.cs) (d := []) hic)).1
   obtain ⟨cr,hcr,hcd⟩ := Aa.capRow rc hC hic
   refine ⟨t,_,rfl,Ac.of ht,rfl,_,_,rfl,_,_,rfl,_,_,rfl,rfl,?_⟩
   refine Dy (σ' := [some (.ref A),some (.ref Fa),some (.ref Ma),some (.int (hour : Int)),some (.ref C),some (.ref B),some (.ref D),some (.int T.lo),some (.int T.hi),some (.int T.st),some (.int (T.co.getD b 0)),some (.int (a : Int)),some (.int (b : Int)),none,none,none,none]) rfl ?_
   refine ⟨Ma,_,(hour : Int),.int (ms.getD hour 0),rfl,rfl,An.of (s2 _ _ fi.m),Bw hh,?_⟩
   dsimp only [mI0,Di]
   refine Dy (σ' := [some (.ref A),some (.ref Fa),some (.ref Ma),some (.int (hour : Int)),some (.ref C),some (.ref B),some (.ref D),some (.int T.lo),some (.int T.hi),some (.int T.st),some (.int (T.co.getD b 0)),some (.int (a : Int)),some (.int (b : Int)),some (.int (T.lo - ms.getD hour 0)),none,none,none]) rfl ?_
   refine ⟨C,_,(a : Int),.ref cr,rfl,rfl,Ac.of (s2 _ _ hC),hcr,cr,_,(b : Int),.int ((T.cs.getD a []).getD b 0),rfl,rfl,Ac.of (s2 _ _ hcd),Bw (by omega),Fa,_,(a : Int),.ref (ras.getD a 0),rfl,rfl,An.of (s2 _ _ fi.a),Ij hif,ras.getD a 0,_,(b : Int),.int ((f.getD a []).getD b 0),rfl,rfl,An.of (s2 _ _ (fi.r a hif)),Bw (by omega),?_⟩
   dsimp only [mI0,Di]
   refine Dy (σ' := [some (.ref A),some (.ref Fa),some (.ref Ma),some (.int (hour : Int)),some (.ref C),some (.ref B),some (.ref D),some (.int T.lo),some (.int T.hi),some (.int T.st),some (.int (T.co.getD b 0)),some (.int (a : Int)),some (.int (b : Int)),some (.int (T.lo - ms.getD hour 0)),some (.int ((T.cs.getD a []).getD b 0 - (f.getD a []).getD b 0)),none,none]) rfl ?_
   refine ⟨ms,a,hour,rfl,rfl,hh,by omega,s2 _ _ fi.m,fun H4 s4 => ⟨_,_,_,rfl,fun m hm m1 m2 m3 => ?_⟩⟩
   have s5 := s2.trans s4
   have m0 : 0 < m := by
    have := may.1
    have := may.2
    rcases hm with rfl | rfl | rfl <;> omega
   have hget := K9 (ns := f.getD a []) (b := b) (by omega)
   have hix : CI ((f.getD a []).map V.int).length (b : Int) = some b := Lc (by rw [List.length_map]; omega)
   dsimp only [mI0,Di]
   refine Dy (σ' := [some (.ref A),some (.ref Fa),some (.ref Ma),some (.int (hour : Int)),some (.ref C),some (.ref B),some (.ref D),some (.int T.lo),some (.int T.hi),some (.int T.st),some (.int (T.co.getD b 0)),some (.int (a : Int)),some (.int (b : Int)),some (.int (T.lo - ms.getD hour 0)),some (.int ((T.cs.getD a []).getD b 0 - (f.getD a []).getD b 0)),some (.int m),none]) rfl ?_
   refine ⟨Fa,_,(a : Int),.ref (ras.getD a 0),rfl,rfl,An.of (s5 _ _ fi.a),Ij hif,?_⟩
   refine ⟨ras.getD a 0,_,b,.int ((f.getD a []).getD b 0),rfl,rfl,s5 _ _ (fi.r a hif),hget,?_⟩
   refine ⟨_,_,rfl,rfl,?_⟩
   refine ⟨ras.getD a 0,_,(b : Int),b,rfl,rfl,s5 _ _ (fi.r a hif),hix,?_⟩
   have e6 : ((f.getD a []).map V.int).set b (V.int ((f.getD a []).getD b 0 + m)) = ((f.getD a []).set b ((f.getD a []).getD b 0 + m)).map V.int := by rw [List.map_set]
   have k6 : upd H4 (ras.getD a 0) (.lst (((f.getD a []).map V.int).set b (V.int ((f.getD a []).getD b 0 + m)))) (ras.getD a 0) = some (.lst (((f.getD a []).set b ((f.getD a []).getD b 0 + m)).map V.int)) := by rw [Ak,e6]
   have o6 : ∀ c o,H4 c = some o -> c ≠ ras.getD a 0 -> upd H4 (ras.getD a 0) (.lst (((f.getD a []).map V.int).set b (V.int ((f.getD a []).getD b 0 + m)))) c = some o := fun c o e n => by rw [Au n]; exact e
   generalize upd H4 (ras.getD a 0) (.lst (((f.getD a []).map V.int).set b (V.int ((f.getD a []).getD b 0 + m)))) = H6 at k6 o6 ⊢
   have m6 : H6 Ma = some (.lst (ms.map V.int)) := o6 _ _ (s5 _ _ fi.m) (Ne.symm (fi.nm a hif))
   refine ⟨Ma,_,rfl,.inl (An.of m6),?_⟩
   rw [List.length_map]
   refine ⟨_,_,rfl,⟨by omega,by omega,by omega,by omega⟩,?_⟩
   rw [show ((ms.length : Int) - (a : Int)).toNat = ms.length - a by omega]
   refine Cg (n := ms.length - a) (fun e σ H' => (∃ x16,σ = [some (.ref A),some (.ref Fa),some (.ref Ma),some (.int (hour : Int)),some (.ref C),some (.ref B),some (.ref D),some (.int T.lo),some (.int T.hi),some (.int T.st),some (.int (T.co.getD b 0)),some (.int (a : Int)),some (.int (b : Int)),some (.int (T.lo - ms.getD hour 0)),some (.int ((T.cs.getD a []).getD b 0 - (f.getD a []).getD b 0)),some (.int m),x16]) /\ H' Ma = some (.lst ((BK ms a (a + e) m).map V.int)) /\ ∀ c o,H6 c = some o -> c ≠ Ma -> H' c = some o) ⟨⟨_,rfl⟩,by rw [Nat.add_zero,Pg]; exact m6,fun c o e n => e⟩ (fun e σ H7 he h7 => ?_) fun σ H7 h7 => ?_
   ·obtain ⟨⟨x16,rfl⟩,m7,o7⟩ := h7
    have le := DP (ms := ms) (a := a) (e := a + e) (m := m)
    have hg := K9 (ns := BK ms a (a + e) m) (b := a + e) (by omega)
    refine ⟨Ma,_,a + e,_,rfl,by rw [Int.natCast_add],m7,hg,_,_,rfl,rfl,Ma,_,((a + e : Nat) : Int),a + e,rfl,by rw [Int.natCast_add],m7,Lc (by rw [List.length_map]; omega),⟨_,rfl⟩,?_,fun c o e1 n => ?_⟩
    ·rw [Ak,<- Nat.add_assoc,<- Ph (by omega) (by omega),List.map_set]
    ·rw [Au n]; exact o7 c o e1 n
   obtain ⟨⟨x16,rfl⟩,m7,o7⟩ := h7
   rw [show a + (ms.length - a) = ms.length by omega] at m7
   have at1 : ∀ i,(C7 f a b m).getD i [] = if i = a then (f.getD a []).set b ((f.getD a []).getD b 0 + m) else f.getD i [] := fun i => EW (by omega)
   refine q H7 (C7 f a b m) (BK ms a ms.length m) ⟨o7 _ _ (o6 _ _ (s5 _ _ fi.a) (Ne.symm (fi.nf a hif))) fi.fm,fun i hi => ?_,by rw [show (C7 f a b m).length = f.length from List.length_set]; exact fi.l,fi.nd,m7,fi.nm,fi.nf,fi.fm⟩ (gr.more (by omega) hb (by omega) m2) ?_ (fun k hk => ?_) (fun ps op => op.step fl lh gr (by omega) ha hb may best m0 m1 m2 m3) (by rw [CO hh,if_pos ⟨ha,hh⟩]; omega) fun c o e n1 n2 => ?_
   ·rw [at1]
    by_cases e : i = a
    ·rw [if_pos e,e]; exact o7 _ _ k6 (fi.nm a hif)
    ·rw [if_neg e]
     exact o7 _ _ (o6 _ _ (s5 _ _ (fi.r i hi)) fun z => e (fi.nd i a hi hif z)) (fi.nm i hi)
   ·rw [CO hh,if_pos ⟨ha,hh⟩]; omega
   ·rw [CO hk]; split <;> omega
   ·refine o7 _ _ (o6 _ _ (s5 _ _ e) fun z => n2 ?_) n1
    rw [z]; exact getD_mem hif
 ·exact h.elim
theorem sc_least_firing : Av ["terms","caps","coals","draws","low","high","start","firing","mains","hour"] ["terms"] (Ar s_least_firing) := Ax
theorem Q2 (F : Df K mg "least_firing" s_least_firing ["terms"]) (T : Tx mg) (D_make_cheapest : Fn P w K mg base 2 "make_cheapest" ["terms","firing","mains","hour"] Gy) : Fn P w K mg base 3 "least_firing" ["terms"] Gz := by
 refine F.fn sc_least_firing (fun vs H Q E h => ?_) (fun f cdv A outer s H vs Q E hr h => ?_)
 ·unfold Gz at h; split at h; rfl; exact h.elim
 refine ⟨_,(Aj (AR (cy 0) (AC K (n := 4) (Ag (Af 1 sc_least_firing.nd) (Ag (Af 2 sc_least_firing.nd) (Ag (Af 3 sc_least_firing.nd) (Ag (AC K (n := 3) (Ag (Af 4 sc_least_firing.nd) (Ag (Af 5 sc_least_firing.nd) (Ag (Af 6 sc_least_firing.nd) AB)))) AB)))))) (Aj (EH (i := 7) ["row","coals"] [none,some 2] sc_least_firing.nd rfl (Aw (by rfl)) rfl (BJ K (cy 1)) (AJ.of rfl) (fun _ _ _ _ => (Af 0 (AG (by rfl)))) (fun _ _ _ _ => AX) (fun _ _ _ _ => (A8 ["coal"] [none] rfl (BJ K (cy 1)) (AJ.of rfl) (fun _ _ _ _ => (Af 0 (AG (by rfl)))) (fun _ _ _ _ => AX) (fun _ _ _ _ => Ah)))) (Aj (EH (i := 8) ["hour","start","draws"] [none,some 6,some 3] sc_least_firing.nd rfl (Aw (by rfl)) rfl (BN rfl T.b_range (Al (AF (Bb K) rfl T.b_len PySem.boot_len (Al (cy 3))))) (AJ.of rfl) (fun _ _ _ _ => (Af 0 (AG (by rfl)))) (fun _ _ _ _ => AX) (fun _ _ _ _ => (Aq AY (cy 1) (AF (Dp rfl) rfl T.b_sum boot_sum (Al (CU s_tup (cy 2) EC (B8 (Aq AV (cy 0) Ah)))))))) (Aj (BG PassesOwn.never rfl (BN rfl T.b_range (Al (AF (Bb K) rfl T.b_len PySem.boot_len (Al (cy 3))))) (Af 9 sc_least_firing.nd) (Am (LO PassesOwn.never (AN Cz (Az (Bk K) (cy 8) (cy 9) (fun _ _ => rfl)) (cy 4) (AL _)) (Am (Bo (Ai D_make_cheapest (hr.mono (by decide)) rfl (Bl (cy 0) (cy 7) (cy 8) (cy 9)))))))) (Am (As (By (B0 K) rfl T.b_tuple BP (Al (A8 ["row"] [none] rfl (EN K (cy 7)) (AJ.of rfl) (fun _ _ _ _ => (Af 0 (AG (by rfl)))) (fun _ _ _ _ => AX) (fun _ _ _ _ => (By (B0 K) rfl T.b_tuple BP (Al (cy 0))))))))))))),?_⟩
 unfold Gz at h
 split at h
 ·rename_i v
  obtain ⟨p,T,fl,lh,sh,no,r,q⟩ := h
  obtain ⟨A,C,B,D,M,xc,rfl,hA,hC,rc,hB,hD,hM⟩ := Aa.terms r
  have l8 := fl.ok.l8
  have o4 := fl.o
  have lc := fl.ok.lc
  have lx := rc.len
  rw [List.length_map] at lx
  refine ⟨A,_,rfl,Ac.of hA,rfl,_,_,rfl,_,_,rfl,_,_,rfl,_,_,rfl,M,_,rfl,Ac.of hM,rfl,_,_,rfl,_,_,rfl,_,_,rfl,rfl,rfl,?_⟩
  refine Dy (σ' := [some (.ref A),some (.ref C),some (.ref B),some (.ref D),some (.int T.lo),some (.int T.hi),some (.int T.st),none,none,none]) rfl ?_
  refine ⟨C,rfl,⟨xc,Ac.of hC⟩,BO (xs := xc) (fun i zs H' => Ab H H' /\ Rows0 H H' i T.co.length zs) (by omega) ⟨Ab.refl _,Rows0.zero⟩ (fun i zs H1 h => by rw [h.2.len]; omega) (fun i zs H1 _ h => Ac.of (h.1 _ _ hC)) (fun i x zs H1 hx h => ?_) fun zs H1 h => ?_⟩
  ·refine ⟨⟨rfl,trivial⟩,fun _ => ?_,fun z => by cases z⟩
   refine ⟨B,rfl,⟨_,Ac.of (h.1 _ _ hB)⟩,BO (xs := T.co.map V.int) (fun j ys H2 => Ab H1 H2 /\ ys = (List.replicate j (0 : Int)).map V.int) (by rw [List.length_map]; omega) ⟨Ab.refl _,rfl⟩ (fun j ys H2 h2 => by rw [h2.2,List.length_map,List.length_replicate]; omega) (fun j ys H2 _ h2 => Ac.of (h2.1 _ _ (h.1 _ _ hB))) (fun j y ys H2 hy h2 => ?_) fun ys H2 h2 => ?_⟩
   ·refine ⟨trivial,fun _ => ⟨h2.1,?_⟩,fun z => by cases z⟩
    rw [h2.2,List.replicate_succ',List.map_append]; rfl
   ·intro L hL
    rw [List.length_map] at h2
    have nL := Ab.new (o := .lst ys) hL
    have n1 : H1 L = none := by
     cases z : H1 L with
     | none => rfl
     | some o => have := h2.1 _ _ z; rw [hL] at this; cases this
    exact ⟨h.1.trans (h2.1.trans nL),h.2.put h.1 (h2.1.trans nL) n1 (by rw [Ak,h2.2])⟩
  intro Fa hFa
  obtain ⟨ras,rfl,lr,hr1,hr2⟩ := h.2.ex
  have nF := Ab.new (o := .lst (ras.map V.ref)) hFa
  have kF : upd H1 Fa (.lst (ras.map V.ref)) Fa = some (.lst (ras.map V.ref)) := Ak
  have s2 := h.1.trans nF
  have fF : H Fa = none := by
   cases z : H Fa with
   | none => rfl
   | some o => have := h.1 _ _ z; rw [hFa] at this; cases this
  have nrF : ∀ k,k < ras.length -> ras.getD k 0 ≠ Fa := fun k hk e => by
   have := (hr1 k (by omega)).2
   rw [e,hFa] at this; cases this
  have hr3 : ∀ k,k < ras.length -> upd H1 Fa (.lst (ras.map V.ref)) (ras.getD k 0) = some (.lst ((List.replicate T.co.length (0 : Int)).map V.int)) := fun k hk => nF _ _ (hr1 k (by omega)).2
  generalize upd H1 Fa (.lst (ras.map V.ref)) = H2 at nF kF s2 hr3 ⊢
  refine Dy (σ' := [some (.ref A),some (.ref C),some (.ref B),some (.ref D),some (.int T.lo),some (.int T.hi),some (.int T.st),some (.ref Fa),none,none]) rfl ?_
  refine ⟨D,_,rfl,.inr (Ac.of (s2 _ _ hD)),?_⟩
  rw [List.length_map]
  refine ⟨_,rfl,by omega,by omega,?_⟩
  rw [show ((T.ds.length : Int)).toNat = T.ds.length by omega]
  refine EI (n := T.ds.length) (fun i zs H' => Ab H2 H' /\ zs = ((List.range i).map fun k => T.st - (T.ds.take (k + 1)).sum).map V.int) (by omega) ⟨Ab.refl _,rfl⟩ (fun i zs H' h => by rw [h.2,List.length_map,List.length_map,List.length_range]; omega) (fun i zs H' hi h => ?_) fun zs H3 h3 => ?_
  ·refine ⟨⟨rfl,rfl,trivial⟩,fun _ => ?_,fun z => by cases z⟩
   have e1 : (0 + (i : Int)) + 1 = ((i + 1 : Nat) : Int) := by omega
   refine ⟨(0 + (i : Int)) + 1,rfl,D,_,rfl,h.1 _ _ (s2 _ _ hD),fun l H4 s4 k4 => ?_⟩
   rw [e1,PC,<- List.map_take] at k4
   refine ⟨l,_,rfl,.inr k4,h.1.trans s4,?_⟩
   rw [h.2,List.range_succ,List.map_append,List.map_append]; rfl
  intro Ma hMa
  have em : zs = (Dd T).map V.int := h3.2
  have nM := Ab.new (o := .lst zs) hMa
  have kM : upd H3 Ma (.lst zs) Ma = some (.lst ((Dd T).map V.int)) := by rw [Ak,em]
  have s4 := s2.trans (h3.1.trans nM)
  have fM : H Ma = none := by
   cases z : H Ma with
   | none => rfl
   | some o => have := (s2.trans h3.1) _ _ z; rw [hMa] at this; cases this
  have kF4 := (h3.1.trans nM) _ _ kF
  have hr4 := fun k hk => (h3.1.trans nM) _ _ (hr3 k hk)
  have nMF : Fa ≠ Ma := A6 (h3.1 _ _ kF) hMa
  have nrM : ∀ k,k < ras.length -> ras.getD k 0 ≠ Ma := fun k hk => A6 (h3.1 _ _ (hr3 k hk)) hMa
  generalize upd H3 Ma (.lst zs) = H4 at nM kM s4 kF4 hr4 ⊢
  have lrd : ras.length = T.ds.length := by omega
  have fi0 : Er H4 Fa Ma ras (List.replicate T.ds.length (List.replicate T.co.length 0)) (Dd T) := ⟨kF4,fun k hk => by rw [Dc (by omega)]; exact hr4 k hk,by rw [List.length_replicate]; exact lrd,fun a b ha hb e => hr2 a b (by omega) (by omega) e,kM,nrM,nrF,nMF⟩
  have own : ∀ {G : Hp},E9 Ma ras H4 G -> Ab H G := fun {G} e b o hb => by
   refine e b o (s4 _ _ hb) (fun z => by rw [z,fM] at hb; cases hb) fun z => ?_
   obtain ⟨k,hk,e2⟩ := QW z
   rw [<- e2,(hr1 k (by omega)).1] at hb; cases hb
  refine Dy (σ' := [some (.ref A),some (.ref C),some (.ref B),some (.ref D),some (.int T.lo),some (.int T.hi),some (.int T.st),some (.ref Fa),some (.ref Ma),none]) rfl ?_
  refine ⟨D,_,rfl,.inr (Ac.of (s4 _ _ hD)),?_⟩
  rw [List.length_map]
  refine ⟨_,rfl,by omega,by omega,?_⟩
  rw [show ((T.ds.length : Int)).toNat = T.ds.length by omega]
  refine Cg (n := T.ds.length) (fun i σ G => (∃ x9,σ = [some (.ref A),some (.ref C),some (.ref B),some (.ref D),some (.int T.lo),some (.int T.hi),some (.int T.st),some (.ref Fa),some (.ref Ma),x9]) /\ E9 Ma ras H4 G /\ ∃ f ms,Er G Fa Ma ras f ms /\ Gr T f ms /\ (∃ ps,Opt T f ms i ps /\ ps.getD i 0 = 0) /\ ∀ k,k < i -> T.lo <= ms.getD k 0) ⟨⟨_,rfl⟩,fun b o e _ _ => e,_,_,fi0,QX fl,⟨_,QY fl sh,by by_cases h0 : 0 < T.ds.length; exact Dc h0; exact F6 (by rw [List.length_replicate]; omega)⟩,fun k hk => absurd hk (Nat.not_lt_zero _)⟩ (fun i σ G hi hP => ?_) fun σ G hP => ?_
  ·obtain ⟨⟨x9,rfl⟩,els,f,ms,fi,gr,⟨ps,op,opz⟩,lo⟩ := hP
   rw [show (0 + (i : Int)) = (i : Int) by omega]
   have lmd : ∀ {f ms},Gr T f ms -> i < ms.length := fun g => by rw [g.lm]; exact hi
   refine ⟨fun n σ G => σ = [some (.ref A),some (.ref C),some (.ref B),some (.ref D),some (.int T.lo),some (.int T.hi),some (.int T.st),some (.ref Fa),some (.ref Ma),some (.int (i : Int))] /\ E9 Ma ras H4 G /\ ∃ f ms,Er G Fa Ma ras f ms /\ Gr T f ms /\ (∃ ps,Opt T f ms i ps /\ (0 < ps.getD i 0 -> ms.getD i 0 <= T.lo)) /\ (∀ k,k < i -> T.lo <= ms.getD k 0) /\ n = (T.lo - ms.getD i 0).toNat,⟨_,rfl,els,f,ms,fi,gr,⟨ps,op,fun z => absurd z (by rw [opz]; decide)⟩,lo,rfl⟩,fun n σ G hW => ?_⟩
   obtain ⟨rfl,els,f,ms,fi,gr,⟨ps,op,opl⟩,lo,rfl⟩ := hW
   refine ⟨Ma,_,(i : Int),.int (ms.getD i 0),rfl,rfl,An.of fi.m,Bw (lmd gr),?_⟩
   by_cases c : ms.getD i 0 < T.lo
   ·show if decide (ms.getD i 0 < T.lo) = true then _ else _
    rw [if_pos (decide_eq_true c)]
    have sG := own els
    refine ⟨fun σ G' => σ = [some (.ref A),some (.ref C),some (.ref B),some (.ref D),some (.int T.lo),some (.int T.hi),some (.int T.st),some (.ref Fa),some (.ref Ma),some (.int (i : Int))] /\ E9 Ma ras H4 G' /\ ∃ f' ms',Er G' Fa Ma ras f' ms' /\ Gr T f' ms' /\ (∃ ps,Opt T f' ms' i ps /\ (0 < ps.getD i 0 -> ms'.getD i 0 <= T.lo)) /\ (∀ k,k < i -> T.lo <= ms'.getD k 0) /\ ms.getD i 0 < ms'.getD i 0,fun σ' G' hN => ?_,?_⟩
    ·obtain ⟨e1,e2,f',ms',fi',gr',op',lo',lt⟩ := hN
     exact ⟨_,by omega,e1,e2,f',ms',fi',gr',op',lo',rfl⟩
    ·refine ⟨p,T,i,f,ms,ras,fl,lh,no,rfl,Aa.ev (Ev.same sG) _ _ r,fi,gr,lmd gr,c,fun G' f' ms' fi' gr' lt mono opt lol el2 => ⟨rfl,fun b o e n1 n2 => el2 b o (els b o e n1 n2) n1 n2,f',ms',fi',gr',(by obtain ⟨ps',o'⟩ := opt ps op; exact ⟨ps',o',fun _ => lol⟩),fun k hk => Int.le_trans (lo k hk) (mono k (by rw [gr.lm]; omega)),lt⟩⟩
   ·show if decide (ms.getD i 0 < T.lo) = true then _ else _
    rw [if_neg (by rw [decide_eq_false c]; exact Bool.false_ne_true)]
    refine ⟨⟨_,rfl⟩,els,f,ms,fi,gr,⟨ps,op.next fl (by omega) opl,op.z (i + 1) (by omega)⟩,fun k hk => ?_⟩
    by_cases e : k = i
    ·rw [e]; omega
    ·exact lo k (by omega)
  obtain ⟨⟨x9,rfl⟩,els,f,ms,fi,gr,⟨ps,op,_⟩,lo⟩ := hP
  have sG := own els
  have lf := gr.lf
  refine ⟨Fa,rfl,⟨_,An.of fi.a⟩,Fz (xs := ras.map V.ref) (fun j zs G' => Ab G G' /\ Ad p G' ((f.take j).map AQ) zs) (by rw [List.length_map]; omega) ⟨Ab.refl _,.nil⟩ (fun j zs G' h => ?_) (fun j zs G' _ h => An.of (h.1 _ _ fi.a)) (fun j x zs G' hx h => ?_) fun zs G' h => ?_⟩
  ·have := h.2.len
   rw [List.length_map,List.length_take] at this
   omega
  ·rw [List.getElem?_map] at hx
   have hj : j < ras.length := by
    cases z : ras[j]? with
    | none => rw [z] at hx; cases hx
    | some ra => exact (List.getElem?_eq_some_iff.mp z).1
   have ex : x = .ref (ras.getD j 0) := by
    rw [List.getElem?_eq_getElem hj] at hx
    rw [List.getD_eq_getElem?_getD,List.getElem?_eq_getElem hj]
    exact (Option.some.inj hx).symm
   subst ex
   refine ⟨trivial,fun _ => ⟨ras.getD j 0,_,rfl,.inl ⟨An.of (h.1 _ _ (fi.r j hj)),fun t ht => ?_⟩⟩,fun z => by cases z⟩
   have nt := Ab.new (o := .tup ((f.getD j []).map V.int)) ht
   have gj : f[j]? = some (f.getD j []) := by rw [List.getD_eq_getElem?_getD,List.getElem?_eq_getElem (by omega)]; rfl
   refine ⟨h.1.trans nt,?_⟩
   rw [A3 gj,List.map_append]
   exact Ad.append (Ad.ev (Ev.same nt) _ _ h.2) (.cons (Aa.row Ak) .nil)
  ·intro L hL
   refine ⟨L,_,rfl,.inl ⟨An.of Ak,fun t ht => ?_⟩⟩
   have nL := Ab.new (o := .lst zs) hL
   have nt := Ab.new (o := .tup zs) ht
   have rs := h.2
   rw [List.length_map,List.take_of_length_le (by omega)] at rs
   refine q t _ f ms ps (sG.trans (h.1.trans (nL.trans nt))) gr (fun k hk => lo k (by rw [<- gr.lm]; exact hk)) op ?_
   exact Aa.tup Ak (Ad.ev (Ev.same (nL.trans nt)) _ _ rs)
 ·exact h.elim
end
end MF
end
section
namespace MF
open PySem PySem.Spec PyProof.Rows L2
inductive GB (T : TM) : PyData -> Prop
 | short {q : Nat × Nat} (h : Bc T = some q) : GB T (.tuple [.str "short",.int q.1,.int q.2])
 | fired {f : List (List Int)} {ms : List Int} {c : Int} {ps os : List Int} (no : Bc T = none) (g : Gr T f ms) (lo : ∀ k,k < ms.length -> T.lo <= ms.getD k 0) (op : Opt T f ms T.ds.length os) (hf : A4 T c ps) : GB T (.tuple [.str "fired",.int c,FD f,AQ ps])
def GC : Sp := fun vs H Q _ => match vs with | [v,u] => ∃ p P S,PL.ok P /\ SY.ok S P.bs.length /\ Aa p H P.d v /\ Aa p H S.d u /\ ∀ x H' d,Ab H H' -> GB (terms P S) d -> Aa p H' d x -> Q x H' | _ => False
section
variable {P : Program} {w : World} {K : PySem.W.Frag} {mg : Str -> Option Value} {base : Heap}
theorem sc_cheapest : Av ["plant","story","terms","stretch","coal","prices"] ["plant","story"] (Ar s_cheapest) := Ax
theorem Q3 (F : Df K mg "cheapest" s_cheapest ["plant","story"]) (T : Tx mg) (D_highest_floor : Fn P w K mg base 3 "highest_floor" ["terms"] E6) (D_least_firing : Fn P w K mg base 3 "least_firing" ["terms"] Gz) (D_least_stretch : Fn P w K mg base 2 "least_stretch" ["terms"] E7) (D_terms_of : CQ P w K mg base) : Fn P w K mg base 11 "cheapest" ["plant","story"] GC := by
 refine F.fn sc_cheapest (fun vs H Q E h => ?_) (fun f cdv A outer s H vs Q E hr h => ?_)
 ·unfold GC at h; split at h; rfl; exact h.elim
 refine ⟨_,(Aj (AE (i := 2) sc_cheapest.nd rfl (Aw (by rfl)) (Ai D_terms_of (hr.mono (by decide)) rfl (Ap (cy 0) (cy 1)))) (Aj (AE (i := 3) sc_cheapest.nd rfl (Aw (by rfl)) (Ai D_least_stretch (hr.mono (by decide)) rfl (Al (cy 2)))) (Aj (AU (AN Ez (cy 3) BE (AL _)) (Am (As (Aq DJ (C3 (Al Cr)) (cy 3)))) AT) (Aj (AR (Ai D_highest_floor (hr.mono (by decide)) rfl (Al (cy 2))) (AC K (n := 2) (Ag (Af 4 sc_cheapest.nd) (Ag (Af 5 sc_cheapest.nd) AB)))) (Am (As (C3 (Bl Cr (cy 4) (Ai D_least_firing (hr.mono (by decide)) rfl (Al (cy 2))) (cy 5))))))))),?_⟩
 unfold GC at h
 split at h
 ·rename_i v u
  obtain ⟨p,P,S,ok,so,r,ru,q⟩ := h
  refine ⟨p,P,S,ok,so,r,ru,fun tv H1 s1 rt => ?_⟩
  have fl := Cb ok so
  refine ⟨p,terms P S,fl.ok,rt,fun x H2 s2 rx => ?_⟩
  have s12 := s1.trans s2
  cases z : Bc (terms P S) with
  | none =>
   rw [z] at rx
   have eu : x = .non := by unfold HG at rx; unfold Aa at rx; exact rx
   subst eu
   refine ⟨rfl,⟨fun c => by simp at c,fun _ => ?_⟩⟩
   refine ⟨p,terms P S,fl,Aa.ev (Ev.same s2) _ _ rt,fun y H3 c ps s3 ry hf => ?_⟩
   obtain ⟨a,b,rfl,ha,hb⟩ := Aa.tailShape ry
   refine ⟨a,_,rfl,Ac.of ha,rfl,_,_,rfl,_,_,rfl,rfl,?_⟩
   refine ⟨p,terms P S,fl,(show P.lo <= P.hi from Int.le_trans ok.ls ok.sh),ok.sh,z,Aa.ev (Ev.same (s2.trans s3)) _ _ rt,fun A H4 f ms os s4 gr lo op rf => fun t H5 s5 k5 => ?_⟩
   exact q (.ref t) H5 _ (s12.trans (s3.trans (s4.trans s5))) (.fired z gr lo op hf) (Aa.tup k5 (.cons Aa.str (.cons Aa.int (.cons (Aa.ev (Ev.same s5) _ _ rf) (.cons (Aa.row ((s4.trans s5) _ _ hb)) .nil)))))
  | some s0 =>
   rw [z] at rx
   obtain ⟨A,eA,hA⟩ := Aa.pair rx
   subst eA
   refine ⟨rfl,⟨fun _ => ?_,fun c => by simp at c⟩⟩
   refine fun t1 H3 s3 k3 => ⟨t1,A,[.str "short"],_,rfl,rfl,k3,s3 _ _ hA,by simp,fun t4 H4 s4 k4 => ?_⟩
   exact q (.ref t4) H4 _ (s12.trans (s3.trans s4)) (.short z) (Aa.tup k4 (.cons Aa.str (.cons Aa.int (.cons Aa.int .nil))))
 ·exact h.elim
end
end MF
end
section
namespace MF
open PySem PySem.Spec PyProof.Rows L2
variable {p : Addr} {H : Hp}
def GD : Sp := fun vs H Q _ => match vs with | [v,u] => ∃ p r cs,Aa p H (AQ r) v /\ Aa p H (AQ cs) u /\ r.length = cs.length /\ r.length <= 1000 /\ (∀ (j : Nat) (x c : Int),r[j]? = some x -> cs[j]? = some c -> 0 <= x /\ x <= c) /\ ∀ H',Ab H H' -> Q (.bl true) H' | _ => False
def GE : Sp := fun vs H Q _ => match vs with | [v,u,w] => ∃ p P S F,Tri p H P S F v u w /\ ∀ H',Ab H H' -> Q (.bl true) H' | _ => False
def GF : Sp := fun vs H Q _ => match vs with | [c,w] => ∃ p P S F,PL.ok P /\ SY.ok S P.bs.length /\ DM P S F /\ Aa p H (FL P S) c /\ Aa p H (FD F) w /\ ∀ H',Ab H H' -> Q (.bl true) H' | _ => False
def Fc : Sp := fun vs H Q _ => match vs with | [v,u,w] => ∃ p P S F,Tri p H P S F v u w /\ ∀ H',Ab H H' -> Q .non H' | _ => False
def GG : Sp := fun vs H Q _ => match vs with | [v,u,w] => ∃ p P S F,Tri p H P S F v u w /\ ∀ t R sv H' k s xs,Run P S F k s -> Ab H H' -> H R = none -> H' t = some (.tup [.ref R,sv]) -> H' R = some (.lst xs) -> Ad p H' (Dq P S F k) xs -> Aa p H' (ES s) sv -> Q (.ref t) H' | _ => False
def GH : Sp := fun vs H Q _ => match vs with | [v,u,w] => ∃ p P S F,Tri p H P S F v u w /\ ∀ sv H' k s,Run P S F k s -> Ab H H' -> Aa p H' (ES s) sv -> Q sv H' | _ => False
def GI : Sp := fun vs H Q _ => match vs with | [v,u,w] => ∃ p P S F,Tri p H P S F v u w /\ ∀ H' k s,Run P S F k s -> Ab H H' -> Q (.bl s.isNone) H' | _ => False
def GJ : Sp := fun vs H Q _ => match vs with | [v,u,w] => ∃ p P S F,Tri p H P S F v u w /\ ret H Q p (AQ (B1 P F)) | _ => False
theorem Aa.firing {F : List (List Int)} {v : V} (r : Aa p H (FD F) v) : ∃ A xs,v = .ref A /\ H A = some (.tup xs) /\ Ad p H (F.map AQ) xs := Aa.shape r
theorem Aa.ofRow {p : Addr} {H : Hp} {r : List Int} {v : V} (h : Aa p H (AQ r) v) : ∃ A,v = .ref A /\ H A = some (.tup (r.map V.int)) := by
 obtain ⟨A,xs,rfl,hA,rs⟩ := Aa.shape h
 rw [Ad.ints rs] at hA
 exact ⟨A,rfl,hA⟩
theorem Q4 {s : Option (Int × Int)} {sv : V} (r : Aa p H (ES s) sv) : decide (sv = .non) = s.isNone := by
 cases s with
 | none => unfold ES Aa at r; subst r; rfl
 | some q =>
  unfold ES at r
  obtain ⟨A,xs,rfl,_⟩ := Aa.shape r
  rfl
section
variable {P : Program} {w : World} {K : PySem.W.Frag} {mg : Str -> Option Value} {base : Heap}
theorem Q5 : Av ["thing","caps"] ["thing","caps"] (Ar s_is_row) := Ax
theorem Q6 (F : Df K mg "is_row" s_is_row ["thing","caps"]) (T : Tx mg) (D_is_tuple_of : Cp P w K mg base) (D_is_whole_from : C9 P w K mg base) : Fn P w K mg base 3 "is_row" ["thing","caps"] GD := by
 refine F.fn Q5 (fun vs H Q E h => ?_) (fun f cdv A outer s H vs Q E hr h => ?_)
 ·unfold GD at h; split at h; rfl; exact h.elim
 refine ⟨_,(Am (As (Bf (Ai D_is_tuple_of (hr.mono (by decide)) rfl (AD (cy 0) (AF (Bb K) rfl T.b_len PySem.boot_len (Al (cy 1))) (AF (Bb K) rfl T.b_len PySem.boot_len (Al (cy 1))))) (BF (AF (Dn rfl) rfl T.b_all boot_all (Al (A8 ["part","cap"] [none,none] rfl (EO P w K rfl T.b_zip (Ap (cy 0) (cy 1))) (AJ.of rfl) (fun _ _ _ _ => (AC K (n := 2) (Ag (Af 0 (AG (by rfl))) (Ag (Af 1 (AG (by rfl))) AB)))) (fun _ _ _ _ => AX) (fun _ _ _ _ => (Ai D_is_whole_from (hr.mono (by decide)) rfl (AD (cy 0) Ah (cy 1))))))))))),?_⟩
 unfold GD at h
 split at h
 ·rename_i v u
  obtain ⟨p,r,cs,rv,ru,hl,h1000,bd,q⟩ := h
  obtain ⟨A,rfl,hA⟩ := Aa.ofRow rv
  obtain ⟨B,rfl,hB⟩ := Aa.ofRow ru
  refine ⟨B,_,rfl,.inr (Ac.of hB),B,_,rfl,.inr (Ac.of hB),p,_,rv,fun b hb => ⟨fun _ => ?_,fun c => ?_⟩⟩
  ·refine ⟨A,B,rfl,⟨_,Ac.of hA⟩,⟨_,Ac.of hB⟩,walk_zip (xs := r.map V.int) (ys := cs.map V.int) (fun i zs H' => Ab H H' /\ zs = List.replicate i (V.bl true)) (by rw [List.length_map]; omega) (by rw [List.length_map,List.length_map]; exact hl) ⟨Ab.refl _,rfl⟩
    (fun i zs H' h => by rw [h.2,List.length_replicate]; omega) (fun i zs H' h => ⟨Ac.of (h.1 _ _ hA),Ac.of (h.1 _ _ hB)⟩) (fun i x y zs H' T hx hy h hT => ?_) fun zs H' h => ?_⟩
   ·rw [List.getElem?_map] at hx hy
    cases z1 : r[i]? with
    | none => rw [z1] at hx; cases hx
    | some n =>
     cases z2 : cs[i]? with
     | none => rw [z2] at hy; cases hy
     | some m =>
      rw [z1] at hx
      rw [z2] at hy
      cases hx
      cases hy
      obtain ⟨n0,nm⟩ := bd i n m z1 z2
      refine ⟨T,_,rfl,Ac.of Ak,rfl,_,_,rfl,_,_,rfl,rfl,trivial,fun _ => ⟨p,.int n,Aa.int,fun b1 e1 => ⟨h.1.trans (Ab.new hT),?_⟩⟩,fun c => by cases c⟩
      rw [BX n0 nm] at e1
      rw [h.2,e1,List.replicate_succ']
   ·intro m hm
    refine ⟨m,List.replicate (r.map V.int).length true,rfl,by rw [Ak,h.2,List.map_replicate],?_⟩
    have ea : (List.replicate (r.map V.int).length true).all id = true := by simp
    rw [ea]
    exact q _ (h.1.trans (Ab.new hm))
  ·rw [En (by rw [List.length_map,List.length_map]; omega) (by rw [List.length_map,List.length_map]; omega)] at hb
   rw [hb] at c; cases c
 ·exact h.elim
theorem Q7 : Av ["caps","thing"] ["caps","thing"] (Ar s_is_firing_within) := Ax
theorem Q8 (F : Df K mg "is_firing_within" s_is_firing_within ["caps","thing"]) (T : Tx mg) (D_is_row : Fn P w K mg base 3 "is_row" ["thing","caps"] GD) (D_is_tuple_of : Cp P w K mg base) : Fn P w K mg base 4 "is_firing_within" ["caps","thing"] GF := by
 refine F.fn Q7 (fun vs H Q E h => ?_) (fun f cdv A outer s H vs Q E hr h => ?_)
 ·unfold GF at h; split at h; rfl; exact h.elim
 refine ⟨_,(Am (As (Bf (Ai D_is_tuple_of (hr.mono (by decide)) rfl (AD (cy 1) (AF (Bb K) rfl T.b_len PySem.boot_len (Al (cy 0))) (AF (Bb K) rfl T.b_len PySem.boot_len (Al (cy 0))))) (BF (AF (Dn rfl) rfl T.b_all boot_all (Al (A8 ["part","row"] [none,none] rfl (EO P w K rfl T.b_zip (Ap (cy 1) (cy 0))) (AJ.of rfl) (fun _ _ _ _ => (AC K (n := 2) (Ag (Af 0 (AG (by rfl))) (Ag (Af 1 (AG (by rfl))) AB)))) (fun _ _ _ _ => AX) (fun _ _ _ _ => (Ai D_is_row (hr.mono (by decide)) rfl (Ap (cy 0) (cy 1))))))))))),?_⟩
 unfold GF at h
 split at h
 ·rename_i c w
  obtain ⟨p,P,S,F,ok,so,fo,r1,rw',q⟩ := h
  have x8 := so.x8
  have b4 := ok.b4
  have fl := fo.len
  obtain ⟨A,xs,rfl,hA,rx⟩ := Aa.firing rw'
  unfold FL at r1
  obtain ⟨B,ys,rfl,hB,ry⟩ := Aa.shape r1
  have lx := rx.len
  rw [List.length_map] at lx
  have ly := ry.len
  rw [List.length_map,C0] at ly
  refine ⟨B,_,rfl,.inr (Ac.of hB),B,_,rfl,.inr (Ac.of hB),p,_,rw',fun b hb => ⟨fun _ => ?_,fun c => ?_⟩⟩
  ·refine ⟨A,B,rfl,⟨_,Ac.of hA⟩,⟨_,Ac.of hB⟩,walk_zip (xs := xs) (ys := ys) (fun i zs H' => Ab H H' /\ zs = List.replicate i (V.bl true)) (by omega) (by omega) ⟨Ab.refl _,rfl⟩
    (fun i zs H' h => by rw [h.2,List.length_replicate]; omega) (fun i zs H' h => ⟨Ac.of (h.1 _ _ hA),Ac.of (h.1 _ _ hB)⟩) (fun i x y zs H' T hx hy h hT => ?_) fun zs H' h => ?_⟩
   ·obtain ⟨r,hr,rr⟩ := Ad.mapGot rx hx
    obtain ⟨cs,hc,rc⟩ := Ad.mapGot ry hy
    have hi : i < S.ex.length := by
     have := (List.getElem?_eq_some_iff.mp hx).1
     omega
    rw [Do hi] at hc
    cases hc
    have s2 := h.1.trans (Ab.new (o := .tup [x,y]) hT)
    refine ⟨T,_,rfl,Ac.of Ak,rfl,_,_,rfl,_,_,rfl,rfl,trivial,fun _ => ⟨p,r,_,Aa.ev (Ev.same s2) _ _ rr,Aa.ev (Ev.same s2) _ _ rc,by rw [FM]; exact fo.row i r hr,by rw [fo.row i r hr]; omega,fun j x c hx hc => fo.bd i r j x c hr hx hc,fun H3 s3 => ⟨s2.trans s3,?_⟩⟩,fun c => by cases c⟩
    rw [h.2,List.replicate_succ']
   ·intro m hm
    refine ⟨m,List.replicate xs.length true,rfl,by rw [Ak,h.2,List.map_replicate],?_⟩
    have ea : (List.replicate xs.length true).all id = true := by simp
    rw [ea]
    exact q _ (h.1.trans (Ab.new hm))
  ·unfold FD at hb
   rw [En (by rw [List.length_map]; omega) (by rw [List.length_map]; omega)] at hb
   rw [hb] at c; cases c
 ·exact h.elim
theorem Q9 : Av ["plant","story","thing"] ["plant","story","thing"] (Ar s_is_firing) := Ax
theorem Ra (F : Df K mg "is_firing" s_is_firing ["plant","story","thing"]) (T : Tx mg) (D_caps_of : Fn P w K mg base 9 "caps_of" ["plant","story"] E2) (D_is_firing_within : Fn P w K mg base 4 "is_firing_within" ["caps","thing"] GF) : Fn P w K mg base 10 "is_firing" ["plant","story","thing"] GE := by
 refine F.fn Q9 (fun vs H Q E h => ?_) (fun f cdv A outer s H vs Q E hr h => ?_)
 ·unfold GE at h; split at h; rfl; exact h.elim
 refine ⟨_,(Am (As (Ai D_is_firing_within (hr.mono (by decide)) rfl (Ap (Ai D_caps_of (hr.mono (by decide)) rfl (Ap (cy 0) (cy 1))) (cy 2))))),?_⟩
 unfold GE at h
 split at h
 ·rename_i v u w
  obtain ⟨p,P,S,F,tr,q⟩ := h
  exact ⟨p,P,S,tr.ok,tr.so,tr.r,tr.ru,fun v1 H1 s1 r1 => ⟨p,P,S,F,tr.ok,tr.so,tr.fo,r1,(tr.sm s1).rw,fun H2 s2 => q H2 (s1.trans s2)⟩⟩
 ·exact h.elim
theorem Rb : Av ["plant","story","firing"] ["plant","story","firing"] (Ar s_need_firing) := Ax
theorem Rc (F : Df K mg "need_firing" s_need_firing ["plant","story","firing"]) (T : Tx mg) (D_is_firing : Fn P w K mg base 10 "is_firing" ["plant","story","thing"] GE) : Fn P w K mg base 11 "need_firing" ["plant","story","firing"] Fc := by
 refine F.fn Rb (fun vs H Q E h => ?_) (fun f cdv A outer s H vs Q E hr h => ?_)
 ·unfold Fc at h; split at h; rfl; exact h.elim
 refine ⟨_,(Am (AU (BM (BA (Ai D_is_firing (hr.mono (by decide)) rfl (AD (cy 0) (cy 1) (cy 2))))) (Am Dg) AT)),?_⟩
 unfold Fc at h
 split at h
 ·rename_i v u w
  obtain ⟨p,P,S,F,tr,q⟩ := h
  exact ⟨p,P,S,F,tr,fun H' s => ⟨fun c => (by cases c),fun c => q H' s⟩⟩
 ·exact h.elim
theorem sc_run_day : Av ["plant","story","firing","low","high","main","rows","hour","drawn","made","blown"] ["plant","story","firing"] (Ar s_run_day) := Ax
theorem Re (F : Df K mg "run_day" s_run_day ["plant","story","firing"]) (T : Tx mg) (D_draws_of : Fn P w K mg base 9 "draws_of" ["plant","story"] Eo) (D_need_firing : Fn P w K mg base 11 "need_firing" ["plant","story","firing"] Fc) : Fn P w K mg base 12 "run_day" ["plant","story","firing"] GG := by
 refine F.fn sc_run_day (fun vs H Q E h => ?_) (fun f cdv A outer s H vs Q E hr h => ?_)
 ·unfold GG at h; split at h; rfl; exact h.elim
 refine ⟨_,(Aj (Bo (Ai D_need_firing (hr.mono (by decide)) rfl (AD (cy 0) (cy 1) (cy 2)))) (Aj (AR (Az (AK K) (cy 0) Ah (fun _ _ => rfl)) (AC K (n := 3) (Ag (Af 3 sc_run_day.nd) (Ag (Af 4 sc_run_day.nd) (Ag (Af 5 sc_run_day.nd) AB))))) (Aj (AE (i := 6) sc_run_day.nd rfl (Aw (by rfl)) (BB Ch)) (Aj (BG PassesOwn.never rfl (DL P w K rfl T.b_enumerate (Al (Ai D_draws_of (hr.mono (by decide)) rfl (Ap (cy 0) (cy 1))))) (AC K (n := 2) (Ag (Af 7 sc_run_day.nd) (Ag (Af 8 sc_run_day.nd) AB))) (Aj (AE (i := 9) sc_run_day.nd rfl (Aw (by rfl)) (AF (Dp rfl) rfl T.b_sum boot_sum (Al (Az (AK K) (cy 2) (cy 7) (fun _ _ => rfl))))) (Aj (IB (i := 5) sc_run_day.nd rfl (Aw (by rfl)) (Aq AY (cy 9) (cy 8)) G6) (Aj (AU (AN Cz (cy 5) (cy 3) (AL _)) (Am (As (AZ (Ap (cy 6) (AZ (Ap (cy 7) (Aq AY (cy 3) (cy 5)))))))) AT) (Aj (AE (i := 10) sc_run_day.nd rfl (Aw (by rfl)) (AF (Hc rfl) rfl T.b_max boot_max (Ap (Aq AY (cy 5) (cy 4)) Ah))) (Aj (IB (i := 5) sc_run_day.nd rfl (Aw (by rfl)) (cy 10) LM) (Am (Bo (Dj PySem.F.plainAttrs_list PySem.F.slot_list_append PySem.F.type_list_append Dk (cy 6) (Al (AZ (Bl (cy 9) (cy 8) (cy 10) (cy 5))))))))))))) (Am (As (AZ (Ap (cy 6) BE)))))))),?_⟩
 unfold GG at h
 split at h
 ·rename_i v u w
  obtain ⟨p,P,S,F,tr,q⟩ := h
  refine ⟨p,P,S,F,tr,fun H1 s1 => ?_⟩
  have t1 := tr.sm s1
  have x8 := tr.so.x8
  have fl := tr.fo.len
  obtain ⟨PA,PB,PE,PM,xb,xe,rfl,pA,pB,rb,pE,re,pM⟩ := Aa.plant t1.r
  refine ⟨PA,_,2,.ref PM,rfl,rfl,Ac.of pA,rfl,PM,_,rfl,Ac.of pM,rfl,_,_,rfl,_,_,rfl,_,_,rfl,rfl,fun R hR => ?_⟩
  have sR : Ab H1 (upd H1 R (.lst [])) := Ab.new hR
  have hHR : H R = none := s1.free hR
  have tR := t1.sm sR
  refine ⟨p,P,S,tr.ok,tr.so,tR.r,tR.ru,fun v1 H2 s2 r2 => ?_⟩
  obtain ⟨D,rfl,hD⟩ := Aa.ofRow (r := draws P S) r2
  have t2 := tR.sm s2
  have sH2 : Ab H H2 := s1.trans (sR.trans s2)
  obtain ⟨FA,fx,rfl,hF,rx⟩ := Aa.firing t2.rw
  refine ⟨D,rfl,⟨_,Ac.of hD⟩,for_enum (xs := (draws P S).map V.int) (fun i σ H' => (∃ x7 x8 x9 x10,σ = [some (.ref PA),some u,some (.ref FA),some (.int P.lo),some (.int P.hi),some (.int (Ay P S F i)),some (.ref R),x7,x8,x9,x10]) /\ Ev R H2 H' /\ (∀ j,j < i -> P.lo <= AH P S F j) /\ ∃ xs,H' R = some (.lst xs) /\ Ad p H' (Dq P S F i) xs)
   ⟨⟨_,_,_,_,rfl⟩,Ev.refl,(fun j hj => absurd hj (Nat.not_lt_zero _)),[],s2 _ _ Ak,.nil⟩ (fun i σ H' h => Ac.of (h.2.1.tup hD)) (fun i x σ H' T hx h hT => ?_) fun σ H' h => ?_⟩
  ·obtain ⟨⟨x7,x8',x9,x10,rfl⟩,ev,up,xs,hRx,rxs⟩ := h
   rw [List.getElem?_map] at hx
   cases z : (draws P S)[i]? with
   | none => rw [z] at hx; cases hx
   | some d =>
    rw [z] at hx
    cases hx
    have hi : i < S.ex.length := by
     have := (List.getElem?_eq_some_iff.mp z).1
     rw [draws_len] at this; exact this
    have ed := Ea z
    obtain ⟨r,hr⟩ : ∃ r,F[i]? = some r := ⟨F[i],by simp⟩
    have em := D9 hr
    obtain ⟨y,hy,ry⟩ := rx.get (i := i) (d := AQ r) (by rw [List.getElem?_map,hr]; rfl)
    have nw : Ab H' (upd H' T (.tup [.int i,.int d])) := Ab.new hT
    have ev2 : Ev R H2 (upd H' T (.tup [.int i,.int d])) := ev.trans (Ev.same nw)
    obtain ⟨ra,rfl,hra⟩ := Aa.ofRow ry
    refine ⟨T,_,rfl,Ac.of Ak,rfl,_,_,rfl,_,_,rfl,rfl,?_⟩
    refine ⟨FA,_,(i : Int),.ref ra,rfl,rfl,Ac.of (ev2.tup hF),B9 hy,ra,r,rfl,.inr (ev2.tup hra),_,rfl,_,_,rfl,rfl,?_⟩
    have epm : Ay P S F i + (r.sum - d) = AH P S F i := by unfold AH; rw [em,ed]
    refine ⟨fun c => ?_,fun c => ?_⟩
    ·intro t1 ht1 t2 ht2
     have c' := of_decide_eq_true c
     have n12 := (Ab.new (o := .tup [.int i,.int (P.lo - (Ay P S F i + (r.sum - d)))]) ht1).trans (Ab.new (o := .tup [.ref R,.ref t1]) ht2)
     refine q t2 R (.ref t1) _ i (some ((i : Int),P.lo - AH P S F i)) xs ⟨Nat.le_of_lt hi,up,.inr ⟨hi,by rw [<- epm]; exact c',rfl⟩⟩ (Ab.evOwn sH2 hHR (ev2.trans (Ev.same n12))) hHR Ak ((nw.trans n12) _ _ hRx) (Ad.ev (Ev.same (nw.trans n12)) _ _ rxs) ?_
     refine Aa.tup ((Ab.new ht2) _ _ Ak) ?_
     rw [<- epm]
     exact .cons Aa.int (.cons Aa.int .nil)
    ·refine ⟨_,_,rfl,_,rfl,_,_,rfl,rfl,.inl ⟨rfl,_,An.of (nw _ _ hRx)⟩,fun t ht => ?_⟩
     have c' : P.lo <= AH P S F i := by
      have := of_decide_eq_false c
      have h2 : ¬ Ay P S F i + (r.sum - d) < P.lo := this
      rw [epm] at h2; omega
     have lx := rxs.len
     rw [NX] at lx
     have hR3 : upd (upd H' T (.tup [.int i,.int d])) t (.tup [.int r.sum,.int d,.int (if 0 > Ay P S F i + (r.sum - d) - P.hi then 0 else Ay P S F i + (r.sum - d) - P.hi),.int (Ay P S F i + (r.sum - d) - if 0 > Ay P S F i + (r.sum - d) - P.hi then 0 else Ay P S F i + (r.sum - d) - P.hi)]) R = some (.lst xs) := (nw.trans (Ab.new ht)) _ _ hRx
     have em2 : Ay P S F i + (r.sum - d) - (if 0 > Ay P S F i + (r.sum - d) - P.hi then 0 else Ay P S F i + (r.sum - d) - P.hi) = Ay P S F (i + 1) := by rw [Ca,<- epm]; rfl
     refine ⟨R,xs,.ref t,rfl,rfl,hR3,Da (by omega),⟨some (.int i),some (.int d),some (.int r.sum),some (.int (if 0 > Ay P S F i + (r.sum - d) - P.hi then 0 else Ay P S F i + (r.sum - d) - P.hi)),congrArg (fun z => [some (V.ref PA),some u,some (V.ref FA),some (V.int P.lo),some (V.int P.hi),some (V.int z),some (V.ref R),some (V.int i),some (V.int d),some (V.int r.sum),some (V.int (if 0 > Ay P S F i + (r.sum - d) - P.hi then 0 else Ay P S F i + (r.sum - d) - P.hi))]) em2⟩,(ev2.trans (Ev.new ht)).trans (Ev.pen hR3),fun j hj => ?_,_,Ak,?_⟩
     ·by_cases cj : j = i
      ·subst cj; exact c'
      ·exact up j (by omega)
     ·have tv := TEv.upd (zs := xs ++ [.ref t]) hR3
      rw [NW]
      refine Ad.snoc (Ad.tev ((Ev.same (p := p) (nw.trans (Ab.new ht))).tev.trans tv) _ _ (EZ fun d hd => ?_) rxs) (Aa.tev (p := p) tv _ _ rfl (Aa.tup Ak ?_))
      ·unfold Dq at hd
       obtain ⟨k,_,rfl⟩ := List.mem_map.mp hd
       rfl
      ·rw [em,ed,Ca,<- epm]
       exact .cons Aa.int (.cons Aa.int (.cons Aa.int (.cons Aa.int .nil)))
  ·obtain ⟨⟨x7,x8',x9,x10,rfl⟩,ev,up,xs,hRx,rxs⟩ := h
   rw [List.length_map,draws_len] at up rxs
   intro t ht
   have nw := Ab.new (o := .tup [.ref R,.non]) ht
   exact q t R .non _ S.ex.length none xs ⟨Nat.le_refl _,up,.inl ⟨rfl,rfl⟩⟩ (Ab.evOwn sH2 hHR (ev.trans (Ev.same nw))) hHR Ak (nw _ _ hRx) (Ad.ev (Ev.same nw) _ _ rxs) Aa.non
 ·exact h.elim
theorem sc_falls_at : Av ["plant","story","firing","rows","short"] ["plant","story","firing"] (Ar s_falls_at) := Ax
theorem Rf (F : Df K mg "falls_at" s_falls_at ["plant","story","firing"]) (T : Tx mg) (D_run_day : Fn P w K mg base 12 "run_day" ["plant","story","firing"] GG) : Fn P w K mg base 13 "falls_at" ["plant","story","firing"] GH := by
 refine F.fn sc_falls_at (fun vs H Q E h => ?_) (fun f cdv A outer s H vs Q E hr h => ?_)
 ·unfold GH at h; split at h; rfl; exact h.elim
 refine ⟨_,(Aj (AR (Ai D_run_day (hr.mono (by decide)) rfl (AD (cy 0) (cy 1) (cy 2))) (AC K (n := 2) (Ag (Af 3 sc_falls_at.nd) (Ag (Af 4 sc_falls_at.nd) AB)))) (Am (As (cy 4)))),?_⟩
 unfold GH at h
 split at h
 ·rename_i v u w
  obtain ⟨p,P,S,F,tr,q⟩ := h
  exact ⟨p,P,S,F,tr,fun t R sv H' k s xs run sm hR ht hRx rx rs => ⟨t,_,rfl,Ac.of ht,rfl,_,_,rfl,_,_,rfl,rfl,q sv H' k s run sm rs⟩⟩
 ·exact h.elim
theorem Rg : Av ["plant","story","firing"] ["plant","story","firing"] (Ar s_keeps_up) := Ax
theorem Rh (F : Df K mg "keeps_up" s_keeps_up ["plant","story","firing"]) (T : Tx mg) (D_falls_at : Fn P w K mg base 13 "falls_at" ["plant","story","firing"] GH) : Fn P w K mg base 14 "keeps_up" ["plant","story","firing"] GI := by
 refine F.fn Rg (fun vs H Q E h => ?_) (fun f cdv A outer s H vs Q E hr h => ?_)
 ·unfold GI at h; split at h; rfl; exact h.elim
 refine ⟨_,(Am (As (Cv Fm (Ai D_falls_at (hr.mono (by decide)) rfl (AD (cy 0) (cy 1) (cy 2))) BE (AL _)))),?_⟩
 unfold GI at h
 split at h
 ·rename_i v u w
  obtain ⟨p,P,S,F,tr,q⟩ := h
  refine ⟨p,P,S,F,tr,fun sv H' k s run sm rs => ⟨rfl,?_⟩⟩
  rw [Q4 rs]
  exact q H' k s run sm
 ·exact h.elim
theorem Ri : Av ["plant","story","firing"] ["plant","story","firing"] (Ar s_steam_by) := Ax
theorem Rj (F : Df K mg "steam_by" s_steam_by ["plant","story","firing"]) (T : Tx mg) (D_need_firing : Fn P w K mg base 11 "need_firing" ["plant","story","firing"] Fc) : Fn P w K mg base 12 "steam_by" ["plant","story","firing"] GJ := by
 refine F.fn Ri (fun vs H Q E h => ?_) (fun f cdv A outer s H vs Q E hr h => ?_)
 ·unfold GJ at h; split at h; rfl; exact h.elim
 refine ⟨_,(Aj (Bo (Ai D_need_firing (hr.mono (by decide)) rfl (AD (cy 0) (cy 1) (cy 2)))) (Am (As (By (B0 K) rfl T.b_tuple BP (Al (A8 ["boiler","firing"] [none,some 2] rfl (BN rfl T.b_range (Al (AF (Bb K) rfl T.b_len PySem.boot_len (Al (Az (AK K) (cy 0) Ah (fun _ _ => rfl)))))) (AJ.of rfl) (fun _ _ _ _ => (Af 0 (AG (by rfl)))) (fun _ _ _ _ => AX) (fun _ _ _ _ => (AF (Dp rfl) rfl T.b_sum boot_sum (Al (A8 ["row","boiler"] [none,some 0] rfl (BJ K (cy 1)) (AJ.of rfl) (fun _ _ _ _ => (Af 0 (AG (by rfl)))) (fun _ _ _ _ => AX) (fun _ _ _ _ => (Az (AK K) (cy 0) (cy 1) (fun _ _ => rfl))))))))))))),?_⟩
 unfold GJ at h
 split at h
 ·rename_i v u w
  obtain ⟨p,P,S,F,tr,q⟩ := h
  refine ⟨p,P,S,F,tr,fun H1 s1 => ?_⟩
  have t1 := tr.sm s1
  have x8 := tr.so.x8
  have b4 := tr.ok.b4
  have fl := tr.fo.len
  obtain ⟨PA,PB,PE,PM,xb,xe,rfl,pA,pB,rb,pE,re,pM⟩ := Aa.plant t1.r
  obtain ⟨FA,fx,rfl,hF,rx⟩ := Aa.firing t1.rw
  have lb := rb.len
  rw [List.length_map] at lb
  have lx := rx.len
  rw [List.length_map] at lx
  refine ⟨PA,_,0,.ref PB,rfl,rfl,Ac.of pA,rfl,PB,_,rfl,.inr (Ac.of pB),_,rfl,by omega,by omega,EI (n := xb.length) (fun i ys H' => Ab H1 H' /\ ys = ((B1 P F).take i).map V.int) (by omega) ⟨Ab.refl _,rfl⟩ (fun i ys H' h => by rw [h.2,List.length_map,List.length_take]; omega) (fun i ys H' hi h => ?_) fun ys H' h => ?_⟩
  ·refine ⟨⟨rfl,trivial⟩,fun _ => ?_,fun z => by cases z⟩
   refine ⟨FA,rfl,⟨fx,Ac.of (h.1 _ _ hF)⟩,BO (xs := fx) (fun j zs H2 => Ab H1 H2 /\ zs = ((F.take j).map fun r => r.getD i 0).map V.int) (by omega) ⟨h.1,rfl⟩ (fun j zs H2 h => by rw [h.2,List.length_map,List.length_map,List.length_take]; omega) (fun j zs H2 _ h => Ac.of (h.1 _ _ hF)) (fun j x zs H2 hx h2 => ?_) fun zs H2 h2 => ?_⟩
   ·obtain ⟨r,hr,rr⟩ := Ad.mapGot rx hx
    obtain ⟨ra,rfl,hra⟩ := Aa.ofRow (Aa.ev (Ev.same h2.1) _ _ rr)
    have hlr := tr.fo.row j r hr
    have hg : r[i]? = some (r.getD i 0) := by rw [List.getD_eq_getElem?_getD,List.getElem?_eq_getElem (by omega)]; rfl
    refine ⟨⟨rfl,trivial⟩,fun _ => ⟨ra,_,_,.int (r.getD i 0),rfl,rfl,Ac.of hra,?_,h2.1,?_⟩,fun z => by cases z⟩
    ·rw [Int.zero_add]
     exact B9 (by rw [List.getElem?_map,hg]; rfl)
    ·rw [A3 hr,List.map_append,List.map_append,h2.2]; rfl
   ·intro m hm
    refine ⟨m,F.map fun r => r.getD i 0,rfl,.inl ?_,h2.1.trans (Ab.new hm),?_⟩
    ·rw [Ak,h2.2,List.take_of_length_le (by omega)]
    ·have hg : (B1 P F)[i]? = some (F.map fun r => r.getD i 0).sum := by unfold B1; rw [List.getElem?_map,List.getElem?_range (by omega)]; rfl
     rw [A3 hg,List.map_append,h.2]; rfl
  ·intro m hm
   refine ⟨m,_,rfl,.inl ⟨An.of Ak,fun t ht => ?_⟩⟩
   refine q _ _ (s1.trans (h.1.trans ((Ab.new hm).trans (Ab.new ht)))) (Aa.row ?_)
   rw [Ak,h.2,List.take_of_length_le (by unfold B1; rw [List.length_map,List.length_range]; omega)]
 ·exact h.elim
end
end MF
end
section
namespace MF
open PySem PySem.Spec PyProof.Rows L2
def Rk : List PyData -> List Int -> Bool
 | [],[] => true
 | d :: ds,j :: r => (match d with | .int i => i == j | _ => false) && Rk ds r
 | _,_ => false
def GK : Sp := fun vs H Q _ => match vs with | [v,u,w] => ∃ p P S F,Tri p H P S F v u w /\ ∀ H',Ab H H' -> Q (.int (coal P F)) H' | _ => False
section
variable {P : Program} {w : World} {K : PySem.W.Frag} {mg : Str -> Option Value} {base : Heap}
theorem sc_coal_of : Av ["plant","story","firing","made"] ["plant","story","firing"] (Ar s_coal_of) := Ax
theorem Rl (F : Df K mg "coal_of" s_coal_of ["plant","story","firing"]) (T : Tx mg) (D_steam_by : Fn P w K mg base 12 "steam_by" ["plant","story","firing"] GJ) : Fn P w K mg base 13 "coal_of" ["plant","story","firing"] GK := by
 refine F.fn sc_coal_of (fun vs H Q E h => ?_) (fun f cdv A outer s H vs Q E hr h => ?_)
 ·unfold GK at h; split at h; rfl; exact h.elim
 refine ⟨_,(Aj (AE (i := 3) sc_coal_of.nd rfl (Aw (by rfl)) (Ai D_steam_by (hr.mono (by decide)) rfl (AD (cy 0) (cy 1) (cy 2)))) (Am (As (AF (Dp rfl) rfl T.b_sum boot_sum (Al (A8 ["units","make","coal"] [none,none,none] rfl (EO P w K rfl T.b_zip (Ap (cy 3) (Az (AK K) (cy 0) Ah (fun _ _ => rfl)))) (AJ.of rfl) (fun _ _ _ _ => (AC K (n := 2) (Ag (Af 0 (AG (by rfl))) (Ag (AC K (n := 2) (Ag (Af 1 (AG (by rfl))) (Ag (Af 2 (AG (by rfl))) AB))) AB)))) (fun _ _ _ _ => AX) (fun _ _ _ _ => (Aq CL (cy 0) (cy 2))))))))),?_⟩
 unfold GK at h
 split at h
 ·rename_i v u w
  obtain ⟨p,P,S,F,tr,q⟩ := h
  have b4 := tr.ok.b4
  refine ⟨p,P,S,F,tr,fun v1 H1 s1 r1 => ?_⟩
  obtain ⟨PA,PB,PE,PM,xb,xe,rfl,pA,pB,rb,pE,re,pM⟩ := Aa.plant (tr.sm s1).r
  obtain ⟨M,rfl,hM⟩ := Aa.ofRow r1
  have lb := rb.len
  rw [List.length_map] at lb
  have ls : (B1 P F).length = P.bs.length := by unfold B1; simp
  refine ⟨PA,_,0,.ref PB,rfl,rfl,Ac.of pA,rfl,M,PB,rfl,⟨_,Ac.of hM⟩,⟨_,Ac.of pB⟩,walk_zip (xs := (B1 P F).map V.int) (ys := xb) (fun i zs H' => Ab H1 H' /\ zs = ((((B1 P F).zip P.bs).take i).map fun q => V.int (q.1 * q.2.2))) (by rw [List.length_map]; omega) (by rw [List.length_map]; omega) ⟨Ab.refl _,rfl⟩
   (fun i zs H' h => by rw [h.2,List.length_map,List.length_take]; omega) (fun i zs H' h => ⟨Ac.of (h.1 _ _ hM),Ac.of (h.1 _ _ pB)⟩) (fun i x y zs H' T hx hy h hT => ?_) fun zs H' h => ?_⟩
  ·rw [List.getElem?_map] at hx
   obtain ⟨c,hcc,rc⟩ := Ad.mapGot rb hy
   cases z1 : (B1 P F)[i]? with
   | none => rw [z1] at hx; cases hx
   | some n =>
    rw [z1] at hx
    cases hx
    have s2 := h.1.trans (Ab.new (o := .tup [.int n,y]) hT)
    obtain ⟨l,zs',rfl,hl',rz⟩ := Aa.shape (Aa.ev (Ev.same s2) _ _ rc)
    obtain ⟨y1,y2,rfl,r1',r2⟩ := Ad.two rz
    unfold Aa at r1' r2
    subst r1' r2
    have bc := tr.ok.b c (List.mem_of_getElem? hcc)
    have hz : ((B1 P F).zip P.bs)[i]? = some (n,c) := by rw [List.getElem?_zip_eq_some]; exact ⟨z1,hcc⟩
    refine ⟨T,_,rfl,Ac.of Ak,rfl,_,_,rfl,_,_,rfl,l,_,rfl,Ac.of hl',rfl,_,_,rfl,_,_,rfl,rfl,rfl,trivial,fun _ => ⟨.inr ⟨by omega,by omega⟩,s2,?_⟩,fun z => by cases z⟩
    rw [h.2,A3 hz,List.map_append]; rfl
  ·intro m hm
   refine ⟨m,(((B1 P F).zip P.bs).map fun (q : Int × Int × Int) => q.1 * q.2.2),rfl,.inl ?_,q _ (s1.trans (h.1.trans (Ab.new hm)))⟩
   rw [Ak,h.2,List.take_of_length_le (by rw [List.length_zip,List.length_map]; omega),List.map_map]; rfl
 ·exact h.elim
end
end MF
end
section
namespace MF
open PySem PySem.Spec PyProof.Rows L2
variable {H : Hp} {G F : List (List Int)} {S : SY} {k i : Nat}
theorem Rm {α : Type} (n : Nat) (x : α) : (List.replicate n [x]).flatten = List.replicate n x := by
 induction n with
 | zero => rfl
 | succ n ih => rw [List.replicate_succ,List.flatten_cons,ih,List.replicate_succ]; rfl
def Feed (H : Hp) (G : List (List Int)) (f : V) : Prop := ∃ A xs,f = .ref A /\ xs.length = G.length /\
 ((H A = some (.tup xs) /\ ∀ (i : Nat) r x,G[i]? = some r -> xs[i]? = some x -> ∃ a,x = .ref a /\ H a = some (.tup (r.map V.int))) \/ (H A = some (.lst xs) /\ ∀ (i : Nat) r x,G[i]? = some r -> xs[i]? = some x -> ∃ a,x = .ref a /\ H a = some (.lst (r.map V.int))))
theorem Feed.same {H' : Hp} {f : V} (x : Feed H G f) (s : Ab H H') : Feed H' G f := by
 obtain ⟨A,xs,e,hl,h⟩ := x
 refine ⟨A,xs,e,hl,h.elim (fun h => .inl ⟨s _ _ h.1,fun i r x hr hx => ?_⟩) fun h => .inr ⟨s _ _ h.1,fun i r x hr hx => ?_⟩⟩
 ·obtain ⟨a,e,k⟩ := h.2 i r x hr hx; exact ⟨a,e,s _ _ k⟩
 ·obtain ⟨a,e,k⟩ := h.2 i r x hr hx; exact ⟨a,e,s _ _ k⟩
theorem Feed.of {p : Addr} {f : V} (r : Aa p H (FD G) f) : Feed H G f := by
 obtain ⟨A,xs,rfl,hA,rs⟩ := Aa.firing r
 have l := rs.len
 rw [List.length_map] at l
 refine ⟨A,xs,rfl,l.symm,.inl ⟨hA,fun i r x hr hx => ?_⟩⟩
 obtain ⟨r',hr',rr⟩ := Ad.mapGot rs hx
 rw [hr] at hr'
 cases hr'
 exact Aa.ofRow rr
def CS (P : PL) (S : SY) (F : List (List Int)) (k : Nat) : List Int := (List.range k).map fun j => Ay P S F (j + 1)
theorem Le {P : PL} : CS P S F (k + 1) = CS P S F k ++ [Ay P S F (k + 1)] := by unfold CS; rw [List.range_succ,List.map_append]; rfl
theorem Ik {P : PL} : (CS P S F k).length = k := by unfold CS; simp
theorem GL {P : PL} {r d : Int} (hr : made F i = r) (hd : BR P S i = d) : (if Ay P S F i + r - d < P.hi then Ay P S F i + r - d else P.hi) = Ay P S F (i + 1) := by
 rw [Ca]
 unfold AH A1
 rw [hr,hd]
 split <;> split <;> omega
theorem GM {P : PL} (h : P.lo <= P.hi) : Ay P S F (i + 1) < P.lo ↔ AH P S F i < P.lo := by
 rw [Ca]
 unfold A1
 split <;> omega
def Il (P : PL) (S : SY) (F : List (List Int)) : Prop := ∀ i,i < S.ex.length -> P.lo <= AH P S F i
def GN : Sp := fun vs H Q _ => match vs with | [.ref m,d,f] => ∃ p P S F,P.lo <= P.hi /\ S.ex.length <= 8 /\ F.length = S.ex.length /\ H m = some (.tup [.int P.lo,.int P.hi,.int P.st]) /\ Aa p H (HB P S) d /\ Feed H F f /\ ∀ R H' k s,Run P S F k s -> Ab H H' -> H R = none -> H' R = some (.lst ((CS P S F k).map V.int)) -> Q (.ref R) H' | _ => False
def GO : Sp := fun vs H Q _ => match vs with | [v,u,f] => ∃ p P S F,PL.ok P /\ SY.ok S P.bs.length /\ F.length = S.ex.length /\ Aa p H P.d v /\ Aa p H S.d u /\ Feed H F f /\ ∀ b H',(b = true ↔ Il P S F) -> Ab H H' -> Q (.bl b) H' | _ => False
def GP : Sp := fun vs H Q _ => match vs with | [.ref p,.int m,.int h] => Bd p H /\ 1 <= m /\ m <= 4 /\ 1 <= h /\ h <= 8 /\ ∀ t H' P S v u,PL.ok P -> SY.ok S P.bs.length -> Il P S (caps P S) -> H' t = some (.tup [v,u]) -> Aa p H' P.d v -> Aa p H' S.d u -> Ev p H H' -> Bd p H' -> Q (.ref t) H' | _ => False
theorem CMul.of_bounds {i j : Int} (h0 : 0 <= j) (h1 : j < 100) : CMul i j := .inr ⟨by omega,by omega⟩
theorem Rn {P : PL} (ok : P.ok) (so : S.ok P.bs.length) (he : P.es = []) (hx : ∀ a ∈ S.ex,a = 0) (hF : F = caps P S := by rfl) : Il P S F := by
 subst hF
 have hd : ∀ i,i < S.ex.length -> BR P S i = 0 := fun i hi => by
  have z : S.ex[i]? = some S.ex[i] := List.getElem?_eq_getElem hi
  rw [Ea (HD z),he,hx _ (List.getElem_mem hi)]; rfl
 have hm : ∀ i,i < S.ex.length -> 0 <= made (caps P S) i := fun i hi => by
  have hg := Do (P := P) hi
  rw [D9 hg]
  have hb := (FP (S := S) ok _ (List.mem_of_getElem? hg)).1
  have : ∀ l : List Int,(∀ a ∈ l,0 <= a /\ a <= 9) -> 0 <= l.sum := fun l => by
   induction l with
   | nil => intro _; exact Int.le_refl _
   | cons a l ih =>
    intro h
    have h1 := h a List.mem_cons_self
    have h2 := ih fun x hx => h x (List.mem_cons_of_mem _ hx)
    rw [List.sum_cons]; omega
  exact this _ hb
 have hl : ∀ i,i <= S.ex.length -> P.lo <= Ay P S (caps P S) i := fun i => by
  induction i with
  | zero => intro _; exact ok.ls
  | succ i ih =>
   intro hi
   have h0 := ih (by omega)
   have h1 := hd i (by omega)
   have h2 := hm i (by omega)
   have h3 := ok.ls
   have h4 := ok.sh
   rw [Ca]
   unfold AH A1
   split <;> omega
 intro i hi
 have h0 := hl i (by omega)
 have h1 := hd i hi
 have h2 := hm i hi
 unfold AH
 omega
theorem Ro {l : List Int} {k : Nat} {x : Int} (h : l[k]? = some x) : (l.take (k + 1)).sum = (l.take k).sum + x := by rw [A3 h,List.sum_append,List.sum_cons,List.sum_nil]; omega
section
variable {P : Program} {w : World} {K : PySem.W.Frag} {mg : Str -> Option Value} {base : Heap}
theorem sc__law_draws : Av ["_law_plant_here","_law_story_here","_law_found","_law_hour","_law_extra","_law_draw_here","_law_first","_law_every"] ["_law_plant_here","_law_story_here"] (Ar s__law_draws) := Ax
theorem Rp (F : Df K mg "_law_draws" s__law_draws ["_law_plant_here","_law_story_here"]) (T : Tx mg)  : Fn P w K mg base 1 "_law_draws" ["_law_plant_here","_law_story_here"] Gs := by
 refine F.fn sc__law_draws (fun vs H Q E h => ?_) (fun f cdv A outer s H vs Q E hr h => ?_)
 ·unfold Gs at h; split at h; rfl; exact h.elim
 refine ⟨_,(Aj (AE (i := 2) sc__law_draws.nd rfl (Aw (by rfl)) (BB Ch)) (Aj (BG PassesOwn.never rfl (DL P w K rfl T.b_enumerate (Al (Az (AK K) (cy 1) Ah (fun _ _ => rfl)))) (AC K (n := 2) (Ag (Af 3 sc__law_draws.nd) (Ag (Af 4 sc__law_draws.nd) AB))) (Aj (BG PassesOwn.never rfl (BJ K (Az (AK K) (cy 0) Ah (fun _ _ => rfl))) (AC K (n := 3) (Ag (Af 5 sc__law_draws.nd) (Ag (Af 6 sc__law_draws.nd) (Ag (Af 7 sc__law_draws.nd) AB)))) (Am (AE (i := 4) sc__law_draws.nd rfl (Aw (by rfl)) (Aq AV (cy 4) (Aq CL (cy 5) (By He rfl T.b_int L2.boot_int (Al (Cv (D8 K) (cy 3) (Op rfl rfl T.b_list rfl T.b_range (AD (cy 6) Ah (cy 7))) (by with_unfolding_all rfl))))))))) (Am (Bo (Dj PySem.F.plainAttrs_list PySem.F.slot_list_append PySem.F.type_list_append Dk (cy 2) (Al (cy 4))))))) (Am (As (By (B0 K) rfl T.b_tuple BP (Al (cy 2))))))),?_⟩
 unfold Gs at h
 split at h
 ·rename_i v u
  obtain ⟨p,P,S,ok,so,r,ru,q⟩ := h
  obtain ⟨A,B,E,xf,rfl,hA,hB,hE,rf⟩ := Aa.story ru
  obtain ⟨PA,PB,PE,PM,xb,xe,rfl,pA,pB,rb,pE,re,pM⟩ := Aa.plant r
  have x8 := so.x8
  have e4 := ok.e4
  have le := re.len
  rw [List.length_map] at le
  intro R hR
  have s0 : Ab H (upd H R (.lst [])) := Ab.new hR
  refine ⟨A,_,0,.ref B,rfl,rfl,Ac.of (s0 _ _ hA),rfl,B,rfl,⟨_,Ac.of (s0 _ _ hB)⟩,for_enum (xs := S.ex.map V.int) (fun i σ H1 => (∃ y3 y4 y5 y6 y7,σ = [some (.ref PA),some (.ref A),some (.ref R),y3,y4,y5,y6,y7]) /\ Ab H H1 /\ H1 R = some (.lst (((draws P S).take i).map V.int)))
   ⟨⟨_,_,_,_,_,rfl⟩,s0,Ak⟩ (fun i σ H1 h => Ac.of (h.2.1 _ _ hB)) (fun i x σ H1 T hx h hT => ?_) fun σ H1 h => ?_⟩
  ·obtain ⟨⟨y3,y4,y5,y6,y7,rfl⟩,s1,hR1⟩ := h
   rw [List.getElem?_map] at hx
   cases z : S.ex[i]? with
   | none => rw [z] at hx; cases hx
   | some n =>
    rw [z] at hx
    cases hx
    have hi : i < S.ex.length := (List.getElem?_eq_some_iff.mp z).1
    have nT := Ab.new (o := .tup [.int i,.int n]) hT
    have s2 := s1.trans nT
    refine ⟨T,_,rfl,Ac.of Ak,rfl,_,_,rfl,_,_,rfl,rfl,?_⟩
    refine ⟨PA,_,1,.ref PE,rfl,rfl,Ac.of (s2 _ _ pA),rfl,PE,rfl,⟨xe,Ac.of (s2 _ _ pE)⟩,LY (xs := xe) (fun k σ H2 => (∃ y5 y6 y7,σ = [some (.ref PA),some (.ref A),some (.ref R),some (.int i),some (.int (n + ((P.es.map fun e => drawn e i).take k).sum)),y5,y6,y7]) /\ Ab (upd H1 T (.tup [.int i,.int n])) H2)
     ⟨⟨_,_,_,congrArg (fun z => [some (V.ref PA),some (.ref A),some (.ref R),some (.int i),some (.int z),y5,y6,y7]) (Int.add_zero n).symm⟩,Ab.refl _⟩ (fun k σ H2 _ h => Ac.of (h.2 _ _ (s2 _ _ pE))) (fun k x σ H2 hx h => ?_) fun σ H2 h => ?_⟩
    ·obtain ⟨⟨y5,y6,y7,rfl⟩,s3⟩ := h
     obtain ⟨e,he,rd⟩ := Ad.mapGot re hx
     obtain ⟨o1,o2,o3,o4,o5,o6⟩ := ok.e e (List.mem_of_getElem? he)
     obtain ⟨a,zs,rfl,ha,rz⟩ := Aa.shape (Aa.ev (Ev.same (s2.trans s3)) _ _ rd)
     obtain ⟨w1,w2,w3,rfl,r1,r2,r3⟩ := Ad.three rz
     unfold Aa at r1 r2 r3
     subst r1 r2 r3
     refine ⟨a,_,rfl,Ac.of ha,rfl,_,_,rfl,_,_,rfl,_,_,rfl,rfl,?_⟩
     refine ⟨_,_,_,rfl,⟨by omega,by omega,by omega,by omega,by omega,by omega⟩,fun l hl => ⟨l,_,rfl,.inl (An.of Ak),rfl,Oq,.inr ⟨_,rfl,CMul.of_bounds (by split <;> omega) (by split <;> omega),⟨some (.int e.1),some (.int e.2.1),some (.int e.2.2),?_⟩,s3.trans (Ab.new hl)⟩⟩⟩
     have e1 : e.1 * (if (if false = true then !BH (V.int (i : Int)) ((C1 e.2.1 8 e.2.2).map V.int) else BH (V.int (i : Int)) ((C1 e.2.1 8 e.2.2).map V.int)) = true then 1 else 0) = drawn e i := by
      have ei : (if false = true then !BH (V.int (i : Int)) ((C1 e.2.1 8 e.2.2).map V.int) else BH (V.int (i : Int)) ((C1 e.2.1 8 e.2.2).map V.int)) = BH (V.int (i : Int)) ((C1 e.2.1 8 e.2.2).map V.int) := rfl
      rw [ei,Os o5 (by omega)]
      unfold drawn
      by_cases c : (i : Int) < e.2.1 \/ ((i : Int) - e.2.1) % e.2.2 ≠ 0
      ·rw [if_pos c,decide_eq_false (fun z => z c),if_neg (by decide),Int.mul_zero]
      ·rw [if_neg c,decide_eq_true c,if_pos rfl,Int.mul_one]
     have e2 : n + ((P.es.map fun e => drawn e i).take k).sum + drawn e i = n + ((P.es.map fun e => drawn e i).take (k + 1)).sum := by
      rw [Ro (x := drawn e i) (by rw [List.getElem?_map,he]; rfl)]; omega
     exact congrArg (fun z => [some (V.ref PA),some (.ref A),some (.ref R),some (.int i),some (.int z),some (.int e.1),some (.int e.2.1),some (.int e.2.2)]) ((congrArg (fun z => n + ((P.es.map fun e => drawn e i).take k).sum + z) e1).trans e2)
    ·obtain ⟨⟨y5,y6,y7,rfl⟩,s3⟩ := h
     rw [List.take_of_length_le (l := P.es.map fun e => drawn e i) (by rw [List.length_map]; omega)]
     have kR := (nT.trans s3) _ _ hR1
     refine ⟨.inl ⟨rfl,_,An.of kR⟩,R,_,_,rfl,rfl,kR,Da (by rw [List.length_map,List.length_take]; omega),⟨_,_,_,_,_,rfl⟩,Ab.own (s2.trans s3) hR,?_⟩
     rw [Ak,A3 (HD z),List.map_append]; rfl
  ·obtain ⟨⟨y3,y4,y5,y6,y7,rfl⟩,s1,hR1⟩ := h
   refine ⟨R,_,rfl,.inl ⟨An.of hR1,fun t ht => q _ _ (s1.trans (Ab.new ht)) (Aa.row ?_)⟩⟩
   rw [Ak,List.take_of_length_le (by rw [draws_len,List.length_map]; exact Nat.le_refl _)]
 ·exact h.elim
theorem sc__law_mains : Av ["_law_main","_law_draws_here","_law_firing","_law_low","_law_high","_law_here","_law_found","_law_draw_here","_law_row"] ["_law_main","_law_draws_here","_law_firing"] (Ar s__law_mains) := Ax
theorem Rq (F : Df K mg "_law_mains" s__law_mains ["_law_main","_law_draws_here","_law_firing"]) (T : Tx mg)  : Fn P w K mg base 1 "_law_mains" ["_law_main","_law_draws_here","_law_firing"] GN := by
 refine F.fn sc__law_mains (fun vs H Q E h => ?_) (fun f cdv A outer s H vs Q E hr h => ?_)
 ·unfold GN at h; split at h; rfl; exact h.elim
 refine ⟨_,(Aj (AR (cy 0) (AC K (n := 3) (Ag (Af 3 sc__law_mains.nd) (Ag (Af 4 sc__law_mains.nd) (Ag (Af 5 sc__law_mains.nd) AB))))) (Aj (AE (i := 6) sc__law_mains.nd rfl (Aw (by rfl)) (BB Ch)) (Aj (BG PassesOwn.never rfl (Ol (EO P w K rfl T.b_zip (Ap (cy 1) (cy 2))) (NJ P w K rfl T.b_zip (Ap (cy 1) (cy 2)))) (AC K (n := 2) (Ag (Af 7 sc__law_mains.nd) (Ag (Af 8 sc__law_mains.nd) AB))) (Aj (AE (i := 5) sc__law_mains.nd rfl (Aw (by rfl)) (AF (Hd rfl) rfl T.b_min boot_min (Ap (cy 4) (Aq AY (Aq AV (cy 5) (AF (Dp rfl) rfl T.b_sum boot_sum (Al (cy 8)))) (cy 7))))) (Aj (AU (AN Cz (cy 5) (cy 3) (AL _)) (Am (As (cy 6))) AT) (Am (Bo (Dj PySem.F.plainAttrs_list PySem.F.slot_list_append PySem.F.type_list_append Dk (cy 6) (Al (cy 5)))))))) (Am (As (cy 6)))))),?_⟩
 unfold GN at h
 split at h
 ·rename_i m d f
  obtain ⟨p,P,S,F,hlh,x8,fl,hm,rd,fd,q⟩ := h
  refine ⟨m,_,rfl,Ac.of hm,rfl,_,_,rfl,_,_,rfl,_,_,rfl,rfl,fun R hR => ?_⟩
  have sR := Ab.new (o := .lst []) hR
  have hHR : H R = none := hR
  obtain ⟨D,rfl,hD⟩ := Aa.ofRow (r := draws P S) (Aa.ev (Ev.same sR) _ _ rd)
  have fd2 := fd.same sR
  have kR0 : upd H R (.lst []) R = some (.lst []) := Ak
  have sH2 := sR
  generalize upd H R (.lst []) = H2 at *
  have ld : ((draws P S).map V.int).length = S.ex.length := by rw [List.length_map,draws_len]
  obtain ⟨GA,gx,rfl,lg,⟨hG,rows⟩ | ⟨hG,rows⟩⟩ := fd2
  ·refine Or.inl ⟨D,GA,rfl,⟨_,Ac.of hD⟩,⟨_,Ac.of hG⟩,JU (xs := (draws P S).map V.int) (ys := gx) (fun i σ H' => (∃ y7 y8,σ = [some (.ref m),some (.ref D),some (.ref GA),some (.int P.lo),some (.int P.hi),some (.int (Ay P S F i)),some (.ref R),y7,y8]) /\ Ev R H2 H' /\ (∀ j,j < i -> P.lo <= AH P S F j) /\ H' R = some (.lst ((CS P S F i).map V.int))) (by omega)
     ⟨⟨_,_,rfl⟩,Ev.refl,(fun j hj => absurd hj (Nat.not_lt_zero _)),kR0⟩ (fun i σ H' h => ⟨Ac.of (h.2.1.tup hD),Ac.of (h.2.1.tup hG)⟩) (fun i x y σ H' T hx hy h hT => ?_) fun σ H' h => ?_⟩
   ·obtain ⟨⟨y7,y8,rfl⟩,ev,up,hRx⟩ := h
    rw [List.getElem?_map] at hx
    cases z : (draws P S)[i]? with
    | none => rw [z] at hx; cases hx
    | some d0 =>
     rw [z] at hx
     cases hx
     have hi : i < S.ex.length := by have := (List.getElem?_eq_some_iff.mp z).1; rw [draws_len] at this; exact this
     obtain ⟨r,hr⟩ : ∃ r,F[i]? = some r := ⟨F[i],by simp⟩
     obtain ⟨ra,rfl,hra⟩ := rows i r y hr hy
     have nT := Ab.new (o := .tup [.int d0,.ref ra]) hT
     have ev1 : Ev R H2 (upd H' T (.tup [.int d0,.ref ra])) := ev.trans (Ev.same nT)
     refine ⟨T,_,rfl,Ac.of Ak,rfl,_,_,rfl,_,_,rfl,rfl,ra,r,rfl,.inr (ev1.tup hra),_,_,rfl,⟨fun c => ?_,fun c => ?_⟩⟩
     ·have c' := of_decide_eq_true c
      have c' : (if Ay P S F i + r.sum - d0 < P.hi then Ay P S F i + r.sum - d0 else P.hi) < P.lo := c'
      rw [GL (D9 hr) (Ea z)] at c'
      exact q R _ i (some ((i : Int),P.lo - AH P S F i)) ⟨Nat.le_of_lt hi,up,.inr ⟨hi,(GM hlh).mp c',rfl⟩⟩ (Ab.evOwn sH2 hHR ev1) hHR (nT _ _ hRx)
     ·have c' := of_decide_eq_false c
      have c' : ¬ (if Ay P S F i + r.sum - d0 < P.hi then Ay P S F i + r.sum - d0 else P.hi) < P.lo := c'
      have em := GL (D9 hr) (Ea z)
      rw [em] at c'
      have kR := nT _ _ hRx
      refine ⟨.inl ⟨rfl,_,An.of kR⟩,R,_,_,rfl,rfl,kR,Da (by rw [List.length_map,Ik]; omega),⟨some (.int d0),some (.ref ra),congrArg (fun z => [some (V.ref m),some (.ref D),some (.ref GA),some (.int P.lo),some (.int P.hi),some (.int z),some (.ref R),some (.int d0),some (.ref ra)]) em⟩,ev1.trans (Ev.pen kR),fun j hj => ?_,?_⟩
      ·by_cases cj : j = i
       ·subst cj
        exact Int.not_lt.mp fun w => c' ((GM hlh).mpr w)
       ·exact up j (by omega)
      ·rw [Ak,Le,List.map_append]
       exact congrArg (fun z => some (HO.lst ((CS P S F i).map V.int ++ [V.int z]))) em
   ·obtain ⟨⟨y7,y8,rfl⟩,ev,up,hRx⟩ := h
    rw [List.length_map,draws_len] at up hRx
    exact q R H' S.ex.length none ⟨Nat.le_refl _,up,.inl ⟨rfl,rfl⟩⟩ (Ab.evOwn sH2 hHR ev) hHR hRx
  ·have nG : GA ≠ R := fun e => by
    subst e
    obtain ⟨A',gx',eA,_,z⟩ := fd
    cases eA
    rcases z with z | z <;> (rw [hHR] at z; cases z.1)
   have nRow : ∀ (i : Nat) g a,F[i]? = some g -> gx[i]? = some (.ref a) -> a ≠ R := fun i g a hg hy e => by
    subst e
    obtain ⟨A',gx',eA,lg2,z⟩ := fd
    cases eA
    rcases z with ⟨z1,z2⟩ | ⟨z1,z2⟩
    ·have := sH2 _ _ z1
     rw [hG] at this; cases this
    ·have := sH2 _ _ z1
     rw [hG] at this
     cases this
     obtain ⟨a',e',k⟩ := z2 i g _ hg hy
     cases e'
     rw [hHR] at k; cases k
   refine Or.inr ⟨D,GA,rfl,⟨_,Ac.of hD⟩,⟨_,An.of hG⟩,JU (xs := (draws P S).map V.int) (ys := gx) (fun i σ H' => (∃ y7 y8,σ = [some (.ref m),some (.ref D),some (.ref GA),some (.int P.lo),some (.int P.hi),some (.int (Ay P S F i)),some (.ref R),y7,y8]) /\ Ev R H2 H' /\ (∀ j,j < i -> P.lo <= AH P S F j) /\ H' R = some (.lst ((CS P S F i).map V.int))) (by omega)
     ⟨⟨_,_,rfl⟩,Ev.refl,(fun j hj => absurd hj (Nat.not_lt_zero _)),kR0⟩ (fun i σ H' h => ⟨Ac.of (h.2.1.tup hD),An.of (h.2.1.lst hG nG)⟩) (fun i x y σ H' T hx hy h hT => ?_) fun σ H' h => ?_⟩
   ·obtain ⟨⟨y7,y8,rfl⟩,ev,up,hRx⟩ := h
    rw [List.getElem?_map] at hx
    cases z : (draws P S)[i]? with
    | none => rw [z] at hx; cases hx
    | some d0 =>
     rw [z] at hx
     cases hx
     have hi : i < S.ex.length := by have := (List.getElem?_eq_some_iff.mp z).1; rw [draws_len] at this; exact this
     obtain ⟨r,hr⟩ : ∃ r,F[i]? = some r := ⟨F[i],by simp⟩
     obtain ⟨ra,rfl,hra⟩ := rows i r y hr hy
     have nT := Ab.new (o := .tup [.int d0,.ref ra]) hT
     have ev1 : Ev R H2 (upd H' T (.tup [.int d0,.ref ra])) := ev.trans (Ev.same nT)
     refine ⟨T,_,rfl,Ac.of Ak,rfl,_,_,rfl,_,_,rfl,rfl,ra,r,rfl,.inl (ev1.lst hra (nRow i r ra hr hy)),_,_,rfl,⟨fun c => ?_,fun c => ?_⟩⟩
     ·have c' := of_decide_eq_true c
      have c' : (if Ay P S F i + r.sum - d0 < P.hi then Ay P S F i + r.sum - d0 else P.hi) < P.lo := c'
      rw [GL (D9 hr) (Ea z)] at c'
      exact q R _ i (some ((i : Int),P.lo - AH P S F i)) ⟨Nat.le_of_lt hi,up,.inr ⟨hi,(GM hlh).mp c',rfl⟩⟩ (Ab.evOwn sH2 hHR ev1) hHR (nT _ _ hRx)
     ·have c' := of_decide_eq_false c
      have c' : ¬ (if Ay P S F i + r.sum - d0 < P.hi then Ay P S F i + r.sum - d0 else P.hi) < P.lo := c'
      have em := GL (D9 hr) (Ea z)
      rw [em] at c'
      have kR := nT _ _ hRx
      refine ⟨.inl ⟨rfl,_,An.of kR⟩,R,_,_,rfl,rfl,kR,Da (by rw [List.length_map,Ik]; omega),⟨some (.int d0),some (.ref ra),congrArg (fun z => [some (V.ref m),some (.ref D),some (.ref GA),some (.int P.lo),some (.int P.hi),some (.int z),some (.ref R),some (.int d0),some (.ref ra)]) em⟩,ev1.trans (Ev.pen kR),fun j hj => ?_,?_⟩
      ·by_cases cj : j = i
       ·subst cj
        exact Int.not_lt.mp fun w => c' ((GM hlh).mpr w)
       ·exact up j (by omega)
      ·rw [Ak,Le,List.map_append]
       exact congrArg (fun z => some (HO.lst ((CS P S F i).map V.int ++ [V.int z]))) em
   ·obtain ⟨⟨y7,y8,rfl⟩,ev,up,hRx⟩ := h
    rw [List.length_map,draws_len] at up hRx
    exact q R H' S.ex.length none ⟨Nat.le_refl _,up,.inl ⟨rfl,rfl⟩⟩ (Ab.evOwn sH2 hHR ev) hHR hRx
 ·exact h.elim
theorem Rr : Av ["_law_plant_here","_law_story_here","_law_firing"] ["_law_plant_here","_law_story_here","_law_firing"] (Ar s__law_keeps) := Ax
theorem Rs (F : Df K mg "_law_keeps" s__law_keeps ["_law_plant_here","_law_story_here","_law_firing"]) (T : Tx mg) (D__law_draws : Fn P w K mg base 1 "_law_draws" ["_law_plant_here","_law_story_here"] Gs) (D__law_mains : Fn P w K mg base 1 "_law_mains" ["_law_main","_law_draws_here","_law_firing"] GN) : Fn P w K mg base 2 "_law_keeps" ["_law_plant_here","_law_story_here","_law_firing"] GO := by
 refine F.fn Rr (fun vs H Q E h => ?_) (fun f cdv A outer s H vs Q E hr h => ?_)
 ·unfold GO at h; split at h; rfl; exact h.elim
 refine ⟨_,(Am (As (Cv CG (AF (Bb K) rfl T.b_len PySem.boot_len (Al (Ai D__law_mains (hr.mono (by decide)) rfl (AD (Az (AK K) (cy 0) Ah (fun _ _ => rfl)) (Ai D__law_draws (hr.mono (by decide)) rfl (Ap (cy 0) (cy 1))) (cy 2))))) (AF (Bb K) rfl T.b_len PySem.boot_len (Al (cy 2))) (AL _)))),?_⟩
 unfold GO at h
 split at h
 ·rename_i v u f
  obtain ⟨p,P,S,F,ok,so,fl,r,ru,fd,q⟩ := h
  have x8 := so.x8
  have hl : P.lo <= P.hi := Int.le_trans ok.ls ok.sh
  obtain ⟨PA,PB,PE,PM,xb,xe,rfl,pA,pB,rb,pE,re,pM⟩ := Aa.plant r
  refine ⟨PA,_,2,.ref PM,rfl,rfl,Ac.of pA,rfl,p,P,S,ok,so,r,ru,fun d H1 s1 rd => ⟨p,P,S,F,hl,x8,fl,s1 _ _ pM,rd,fd.same s1,fun R H2 k s run s2 hR hRx => ?_⟩⟩
  have fd2 := (fd.same (s1.trans s2))
  obtain ⟨GA,gx,rfl,lg,fdc⟩ := fd2
  have kg : An K H2 GA gx \/ Ac K H2 GA gx := fdc.elim (fun z => .inr (Ac.of z.1)) fun z => .inl (An.of z.1)
  refine ⟨R,_,rfl,.inl (An.of hRx),GA,gx,rfl,kg,rfl,?_⟩
  refine q _ _ ?_ (s1.trans s2)
  rw [List.length_map,Ik,lg,fl]
  constructor
  ·intro c i hi
   have e : (k : Int) = (S.ex.length : Int) := by
    have := of_decide_eq_true c
    injection this
   exact run.up i (by omega)
  ·intro kp
   refine decide_eq_true ?_
   rcases run.fin with ⟨_,e⟩ | ⟨e1,e2,_⟩
   ·rw [e]
   ·have := kp k e1
    omega
 ·exact h.elim
theorem sc__law_pair : Av ["_law_pen_here","_law_most","_law_hours","_law_turn","_law_plant_here","_law_story_here"] ["_law_pen_here","_law_most","_law_hours"] (Ar s__law_pair) := Ax
theorem Rt (F : Df K mg "_law_pair" s__law_pair ["_law_pen_here","_law_most","_law_hours"]) (T : Tx mg) (D__law_caps : Fn P w K mg base 1 "_law_caps" ["_law_plant_here","_law_story_here"] Gq) (D__law_keeps : Fn P w K mg base 2 "_law_keeps" ["_law_plant_here","_law_story_here","_law_firing"] GO) (D__law_plant : Fn P w K mg base 2 "_law_plant" ["_law_pen_here","_law_most"] Gg) (D__law_story : Fn P w K mg base 2 "_law_story" ["_law_pen_here","_law_plant_here","_law_most"] Gp) : Fn P w K mg base 3 "_law_pair" ["_law_pen_here","_law_most","_law_hours"] GP := by
 refine F.fn sc__law_pair (fun vs H Q E h => ?_) (fun f cdv A outer s H vs Q E hr h => ?_)
 ·unfold GP at h; split at h; rfl; exact h.elim
 refine ⟨_,(Aj (BG PassesOwn.never rfl (BN rfl T.b_range (Al Ah)) (Af 3 sc__law_pair.nd) (Aj (AE (i := 4) sc__law_pair.nd rfl (Aw (by rfl)) (Ai D__law_plant (hr.mono (by decide)) rfl (Ap (cy 0) (cy 1)))) (Aj (AE (i := 5) sc__law_pair.nd rfl (Aw (by rfl)) (Ai D__law_story (hr.mono (by decide)) rfl (AD (cy 0) (cy 4) (cy 2)))) (Am (AU (BA (Ai D__law_keeps (hr.mono (by decide)) rfl (AD (cy 4) (cy 5) (Ai D__law_caps (hr.mono (by decide)) rfl (Ap (cy 4) (cy 5)))))) (Am (As (AZ (Ap (cy 4) (cy 5))))) AT))))) (Am (As (AZ (Ap (Aq DJ (CU s_tup (cy 4) EC (B8 Ah)) (AZ (Ap (AZ Ch) (Az (AK K) (cy 4) Ah (fun _ _ => rfl))))) (AZ (Ap (Aq N0 (AZ (Al Ah)) (AF (Bb K) rfl T.b_len PySem.boot_len (Al (Az (AK K) (cy 5) Ah (fun _ _ => rfl))))) (Az (AK K) (cy 5) Ah (fun _ _ => rfl))))))))),?_⟩
 unfold GP at h
 split at h
 ·rename_i p m h
  obtain ⟨pn,m1,m4,h1,h8,q⟩ := h
  refine ⟨5,rfl,by decide,by decide,Cg (n := 5) (fun i σ H' => (∃ x3 x4 x5,σ = [some (.ref p),some (.int m),some (.int h),x3,x4,x5] /\ (0 < i -> ∃ v u P S,x4 = some v /\ x5 = some u /\ PL.ok P /\ SY.ok S P.bs.length /\ Aa p H' P.d v /\ Aa p H' S.d u)) /\ Ev p H H' /\ Bd p H') ⟨⟨_,_,_,rfl,fun z => absurd z (Nat.lt_irrefl _)⟩,Ev.refl,pn⟩ (fun i σ H1 hi hP => ?_) fun σ H1 hP => ?_⟩
  ·obtain ⟨⟨x3,x4,x5,rfl,_⟩,e1,pn1⟩ := hP
   refine ⟨pn1,m1,m4,fun v H2 bs es lo hi st gp rv e2 pn2 => ?_⟩
   obtain ⟨P,ok,eP⟩ := gp.pl
   rw [eP] at rv
   refine ⟨pn2,h1,h8,P,ok,rv,fun u H3 S so ru e3 pn3 => ?_⟩
   have rv3 := Aa.ev e3 _ _ rv
   refine ⟨p,P,S,ok,so,rv3,ru,fun c H4 s4 rc => ⟨p,P,S,caps P S,ok,so,C0,Aa.ev (Ev.same s4) _ _ rv3,Aa.ev (Ev.same s4) _ _ ru,Feed.of rc,fun b H5 hb s5 => ⟨fun cc => ?_,fun cc => ?_⟩⟩⟩
   ·intro t ht
    have n1 := Ab.new (o := .tup [v,u]) ht
    have s45 := s4.trans (s5.trans n1)
    exact q t _ P S v u ok so (hb.mp cc) Ak (Aa.ev (Ev.same s45) _ _ rv3) (Aa.ev (Ev.same s45) _ _ ru) (e1.trans (e2.trans (e3.trans (Ev.same s45)))) (pn3.same s45)
   ·have s45 := s4.trans s5
    exact ⟨⟨_,_,_,rfl,fun _ => ⟨v,u,P,S,rfl,rfl,ok,so,Aa.ev (Ev.same s45) _ _ rv3,Aa.ev (Ev.same s45) _ _ ru⟩⟩,e1.trans (e2.trans (e3.trans (Ev.same s45))),pn3.same s45⟩
  ·obtain ⟨⟨x3,x4,x5,rfl,hh⟩,e1,pn1⟩ := hP
   obtain ⟨v,u,P,S,rfl,rfl,ok,so,rv,ru⟩ := hh (by decide)
   obtain ⟨A,B,E,xf,rfl,hA,hB,hE,rf⟩ := Aa.story ru
   obtain ⟨PA,PB,PE,PM,xb,xe,rfl,pA,pB,rb,pE,re,pM⟩ := Aa.plant rv
   have x8 := so.x8
   have x1 := so.x1
   refine ⟨1,rfl,PA,_,rfl,pA,fun u1 H2 s2 k2 z1 hz1 => ?_⟩
   have n1 := Ab.new (o := .tup []) hz1
   refine ⟨PA,_,2,.ref PM,rfl,rfl,Ac.of ((s2.trans n1) _ _ pA),rfl,fun z2 hz2 => ?_⟩
   have n2 := Ab.new (o := .tup [.ref z1,.ref PM]) hz2
   have s12 := s2.trans (n1.trans n2)
   refine ⟨u1,z2,_,_,rfl,rfl,(n1.trans n2) _ _ k2,Ak,(show (1 : Nat) + 2 <= 1000 by decide),fun u3 H3 s3 k3 z3 hz3 => ?_⟩
   have n3 := Ab.new (o := .tup [.int 0]) hz3
   have s13 := s12.trans (s3.trans n3)
   refine ⟨A,_,0,.ref B,rfl,rfl,Ac.of (s13 _ _ hA),rfl,B,_,rfl,.inr (Ac.of (s13 _ _ hB)),z3,_,[.int 0],rfl,rfl,Ak,by simp,(by rw [List.length_map]; omega),(by rw [List.length_map]; omega),by simp,fun u4 H4 s4 k4 => ?_⟩
   rw [List.length_map,Int.toNat_natCast,Rm] at k4
   have s14 := s13.trans s4
   refine ⟨A,_,1,.ref E,rfl,rfl,Ac.of (s14 _ _ hA),rfl,fun z5 hz5 t ht => ?_⟩
   have n5 := Ab.new (o := .tup [.ref u4,.ref E]) hz5
   have n6 := Ab.new (o := .tup [.ref u3,.ref z5]) ht
   have s16 := s14.trans (n5.trans n6)
   let P' : PL := ⟨P.bs,[],P.lo,P.hi,P.st⟩
   let S' : SY := ⟨List.replicate S.ex.length 0,S.fs⟩
   have ok' : PL.ok P' := ⟨ok.b,ok.b1,ok.b4,fun _ z => (by cases z),Nat.zero_le _,ok.lo0,ok.ls,ok.sh,ok.h4⟩
   have le' : S'.ex.length = S.ex.length := List.length_replicate
   have so' : SY.ok S' P'.bs.length := ⟨by rw [le']; exact so.x1,by rw [le']; exact so.x8,fun a ha => by rw [List.eq_of_mem_replicate ha]; omega,so.f4,fun x hx => by rw [le']; exact so.f x hx⟩
   have z1k := ((n2.trans (s3.trans (n3.trans (s4.trans (n5.trans n6))))) _ _ (Ak (H := H2) (a := z1) (o := .tup [])))
   refine q t _ P' S' (.ref u3) (.ref z5) ok' so' (Rn ok' so' rfl fun a ha => List.eq_of_mem_replicate ha) Ak ?_ ?_ (e1.trans (Ev.same s16)) (pn1.same s16)
   ·have k3' := (n3.trans (s4.trans (n5.trans n6))) _ _ k3
    refine Aa.tup (xs := [.ref PB,.ref z1,.ref PM]) k3' (.cons (Aa.tup (s16 _ _ pB) (Ad.ev (Ev.same s16) _ _ rb)) (.cons (Aa.tup z1k .nil) (.cons (Aa.tup (s16 _ _ pM) (.cons Aa.int (.cons Aa.int (.cons Aa.int .nil)))) .nil)))
   ·have k5 := n6 _ _ (Ak (H := H4) (a := z5) (o := .tup [.ref u4,.ref E]))
    refine Aa.tup k5 (.cons (Aa.row ?_) (.cons (Aa.tup (s16 _ _ hE) (Ad.ev (Ev.same s16) _ _ rf)) .nil))
    have := (n5.trans n6) _ _ k4
    rw [this,List.map_replicate]
 ·exact h.elim
end
end MF
end
section
namespace MF
open PySem PySem.Spec PyProof.Rows L2
theorem Ru {X : Cx} {j : Nat} {p q : Pos} : PE X (.UnaryOp .USub (.Constant (.int 1) j p) q) (tC (.int (-1))) := (L0 L3 Ah).weak fun σ H Q z => ⟨1,rfl,z⟩
theorem Rv {P : PL} {S : SY} {f : List (List Int)} {ms ps : List Int} (g : Gr (terms P S) f ms) (o : Opt (terms P S) f ms S.ex.length ps) (lo : ∀ k,k < ms.length -> P.lo <= ms.getD k 0) : Run P S f S.ex.length none := by
 have lds : (terms P S).ds.length = S.ex.length := draws_len
 refine ⟨Nat.le_refl _,fun i hi => ?_,.inl ⟨rfl,rfl⟩⟩
 rw [(Ia g (fun k hk => o.hi k (by rw [lds]; exact hk)) i hi).1]
 exact lo i (by rw [g.lm,lds]; exact hi)
theorem Rw {P : PL} {S : SY} {f : List (List Int)} {ms : List Int} (g : Gr (terms P S) f ms) : DM P S f := by
 have lco : (terms P S).co.length = P.bs.length := by show (P.bs.map (·.2)).length = _; rw [List.length_map]
 have lds : (terms P S).ds.length = S.ex.length := draws_len
 have gf : ∀ (i : Nat) (r : List Int),f[i]? = some r -> i < f.length /\ f.getD i [] = r := fun i r h => ⟨(List.getElem?_eq_some_iff.mp h).1,by rw [List.getD_eq_getElem?_getD,h]; rfl⟩
 refine ⟨by rw [g.lf,lds],fun i r h => ?_,fun i r j x c h hx hc => ?_⟩
 ·obtain ⟨hi,e⟩ := gf i r h
  have := g.row i hi
  rw [e,lco] at this; exact this
 ·obtain ⟨hi,e⟩ := gf i r h
  have hr := g.row i hi
  rw [e] at hr
  have hj : j < (terms P S).co.length := by rw [<- hr]; exact (List.getElem?_eq_some_iff.mp hx).1
  have b := g.bd i j hi hj
  have e1 : (terms P S).cs.getD i [] = Bs P.bs S.fs i := by
   show (caps P S).getD i [] = _
   rw [List.getD_eq_getElem?_getD,Do (by rw [<- lds,<- g.lf]; exact hi)]; rfl
  rw [e,e1,List.getD_eq_getElem?_getD,hx,List.getD_eq_getElem?_getD,hc] at b
  exact b
structure Told (P : PL) (S : SY) (f : List (List Int)) (c : Int) (ps : List Int) : Prop where
 no : Bc (terms P S) = none
 fo : DM P S f
 run : Run P S f S.ex.length none
 co : c = coal P f
 fl : A5 (terms P S) ps = coal P f
 len : ps.length = S.ex.length
 pos : ∀ x ∈ ps,0 <= x
 top : A4 (terms P S) c ps
theorem Rx {P : PL} {S : SY} (ok : P.ok) (so : S.ok P.bs.length) {d : PyData} (p : GB (terms P S) d) : (∃ q,Bc (terms P S) = some q /\ d = .tuple [.str "short",.int q.1,.int q.2]) \/ ∃ f c ps,Told P S f c ps /\ d = .tuple [.str "fired",.int c,FD f,AQ ps] := by
 cases p with
 | short h => exact .inl ⟨_,h,rfl⟩
 | @fired f ms c ps os no g lo op hf =>
  have lds : (terms P S).ds.length = S.ex.length := draws_len
  rw [lds] at op
  have fl := Cb ok so
  have fo := Rw g
  have co := Pq ok so fo g op lo hf
  refine .inr ⟨f,c,ps,⟨no,fo,Rv g op lo,co,by rw [<- hf.val]; exact co,by rw [hf.len,lds],fun x hx => ?_,hf⟩,rfl⟩
  rcases List.mem_cons.mp (hf.as x hx) with e | e
  ·omega
  ·have := fl.o1 _ e; omega
theorem GQ {T : TM} {c c' : Int} {ps ps' : List Int} (h : A4 T c ps) (h' : A4 T c' ps') : c = c' := by
 have a := h.top ps' h'.len h'.as
 have b := h'.top ps h.len h.as
 have := h.val
 have := h'.val
 omega
def GR : Sp := fun vs H Q _ => match vs with | [v,u] => ∃ p P S,PL.ok P /\ SY.ok S P.bs.length /\ Aa p H P.d v /\ Aa p H S.d u /\ (Bc (terms P S) ≠ none -> ∀ H',Ab H H' -> Q .non H') /\ (Bc (terms P S) = none -> ∀ f ps H',A4 (terms P S) f ps -> Ab H H' -> Q (.int f) H') | _ => False
def GS : Sp := fun vs H Q _ => match vs with | [v,u,w] => ∃ p P S F k,Tri p H P S F v u w /\ Run P S F k none /\ ∀ H',Ab H H' -> Q .non H' | _ => False
def GT : Sp := fun vs H Q _ => match vs with | [v,u,w,x] => ∃ p P S F k ns,Tri p H P S F v u w /\ Run P S F k none /\ Aa p H (AQ ns) x /\ ns.length = S.ex.length /\ (∀ n ∈ ns,0 <= n) /\ ∀ H',Ab H H' -> Q (.bl (decide (A5 (terms P S) ns = coal P F))) H' | _ => False
theorem Es {p : Addr} {H : Hp} {T : TM} {A C B D M : Addr} {xc : List V} (hA : H A = some (.tup [.ref C,.ref B,.ref D,.ref M])) (hC : H C = some (.tup xc)) (rc : Ad p H (T.cs.map AQ) xc) (hB : H B = some (.tup (T.co.map V.int))) (hD : H D = some (.tup (T.ds.map V.int))) (hM : H M = some (.tup [.int T.lo,.int T.hi,.int T.st])) : Aa p H T.d (.ref A) :=
 Aa.tup hA (.cons (Aa.tup hC rc) (.cons (Aa.row hB) (.cons (Aa.row hD) (.cons (Aa.tup hM (.cons Aa.int (.cons Aa.int (.cons Aa.int .nil)))) .nil))))
theorem Lf {p : Addr} {H : Hp} {d : PyData} {x : V} (rx : Aa p H d x) : ∀ {ds : List PyData} {xs : List V} (k : Nat),Ad p H ds xs -> Ad p H (ds.set k d) (xs.set k x)
 | [],xs,k,r => by unfold Ad at r; subst r; exact .nil
 | e :: ds,xs,0,r => by
  unfold Ad at r
  obtain ⟨y,t,rfl,ry,rt⟩ := r
  exact .cons rx rt
 | e :: ds,xs,k + 1,r => by
  unfold Ad at r
  obtain ⟨y,t,rfl,ry,rt⟩ := r
  exact .cons ry (Lf rx k rt)
theorem Ry {T : TM} (f : A9 T) {x : Int} (h0 : 0 <= x) (h1 : x <= 100) : A9 { T with hi := x } := ⟨⟨f.ok.l8,f.ok.lc⟩,f.c,f.o,f.o1,f.d,f.l0,h0,f.s0,f.l4,h1,f.s4⟩
theorem Rz {T : TM} (f : A9 T) {x : Int} (h0 : 0 <= x) (h1 : x <= 100) : A9 { T with lo := x } := ⟨⟨f.ok.l8,f.ok.lc⟩,f.c,f.o,f.o1,f.d,h0,f.h0,f.s0,h1,f.h4,f.s4⟩
theorem RA {T : TM} (f : A9 T) {x : Int} (h0 : 0 <= x) (h1 : x <= 100) : A9 { T with st := x } := ⟨⟨f.ok.l8,f.ok.lc⟩,f.c,f.o,f.o1,f.d,f.l0,f.h0,h0,f.l4,f.h4,h1⟩
theorem Lg {T : TM} (f : A9 T) {k : Nat} {x : Int} (h0 : 0 <= x) (h1 : x <= 100) : A9 { T with ds := T.ds.set k x } := by
 refine ⟨⟨by show (T.ds.set k x).length <= 8; rw [List.length_set]; exact f.ok.l8,by show T.cs.length = (T.ds.set k x).length; rw [List.length_set]; exact f.ok.lc⟩,f.c,f.o,f.o1,fun y hy => ?_,f.l0,f.h0,f.s0,f.l4,f.h4,f.s4⟩
 rcases List.mem_or_eq_of_mem_set hy with hy | rfl
 ·exact f.d y hy
 ·exact ⟨h0,h1⟩
theorem RB {T : TM} (f : A9 T) {k : Nat} {r : List Int} (h : r.length = T.co.length) (hc : ∀ c ∈ r,0 <= c /\ c <= 20) : A9 { T with cs := T.cs.set k r } := by
 refine ⟨⟨f.ok.l8,by show (T.cs.set k r).length = T.ds.length; rw [List.length_set]; exact f.ok.lc⟩,fun y hy => ?_,f.o,f.o1,f.d,f.l0,f.h0,f.s0,f.l4,f.h4,f.s4⟩
 rcases List.mem_or_eq_of_mem_set hy with hy | rfl
 ·exact f.c y hy
 ·exact ⟨h,hc⟩
theorem Im {T U : TM} (hd : T.ds = U.ds) (hc : T.cs = U.cs) (s : T.st <= U.st) (h : T.hi <= U.hi) (lo : U.lo <= T.lo) (no : Bc T = none) : Bc U = none :=
 HR (by rw [hd]) (fun i => by rw [hd]; exact Int.le_refl _) (by rw [hc]) (fun i => by rw [hc]; exact Int.le_refl _) s h lo no
theorem RC {r : List Int} : ∀ {k : Nat} {x : Int},k < r.length -> (r.set k x).sum = r.sum + x - r.getD k 0 := by
 induction r with
 | nil => intro k x h; simp at h
 | cons a r ih =>
  intro k x h
  cases k with
  | zero => show x + r.sum = a + r.sum + x - a; omega
  | succ k =>
   have := ih (k := k) (x := x) (by simpa using h)
   show a + (r.set k x).sum = a + r.sum + x - r.getD k 0
   omega
def Et : Sp := fun vs H Q _ => match vs with | [u,.int h] => ∃ p S,∃ n k : Nat,SY.ok S n /\ Aa p H S.d u /\ h = (k : Int) /\ k < S.ex.length /\ ∀ H',Ab H H' -> Q .non H' | _ => False
def GU : Sp := fun vs H Q _ => match vs with | [v,.int b] => ∃ p P,∃ k : Nat,PL.ok P /\ Aa p H P.d v /\ b = (k : Int) /\ k < P.bs.length /\ ∀ H',Ab H H' -> Q .non H' | _ => False
def Io : Sp := fun vs H Q _ => match vs with | [v] => ∃ p T,A9 T /\ Aa p H T.d v /\ Bc T = none /\ ∀ f ps H',A4 T f ps -> Ab H H' -> Q (.int f) H' | _ => False
structure Two (p : Addr) (H : Hp) (P : PL) (S : SY) (v u : V) : Prop where
 ok : PL.ok P
 so : SY.ok S P.bs.length
 r : Aa p H P.d v
 ru : Aa p H S.d u
 no : Bc (terms P S) = none
def GV : Sp := fun vs H Q _ => match vs with | [v,u,.int h] => ∃ p P S,∃ k : Nat,Two p H P S v u /\ h = (k : Int) /\ k < S.ex.length /\ ∀ x H',(x = .non \/ ∃ d,x = .int d /\ ∀ c qs,A4 (terms P S) c qs -> qs.getD k 0 <= d) -> Ab H H' -> Q x H' | _ => False
def GW : Sp := fun vs H Q _ => match vs with | [v,u,.int h] => ∃ p P S,∃ k : Nat,Two p H P S v u /\ h = (k : Int) /\ k < S.ex.length /\ ∀ x H',(((draws P S).getD k 0 = 0 /\ x = .non) \/ ((draws P S).getD k 0 ≠ 0 /\ ∃ d,x = .int d /\ ∀ c qs,A4 (terms P S) c qs -> d <= qs.getD k 0)) -> Ab H H' -> Q x H' | _ => False
def GX : Sp := fun vs H Q _ => match vs with | [v,u] => ∃ p P S,Two p H P S v u /\ ∀ x H',(x = .non \/ ∃ d,x = .int d /\ 0 <= d) -> Ab H H' -> Q x H' | _ => False
def GY : Sp := fun vs H Q _ => match vs with | [v,u] => ∃ p P S,Two p H P S v u /\ ∀ x H',(x = .non \/ ∃ d,x = .int d /\ 0 <= d) -> Ab H H' -> Q x H' | _ => False
def GZ : Sp := fun vs H Q _ => match vs with | [v,u] => ∃ p P S,Two p H P S v u /\ ∀ x H',(x = .non \/ ∃ d,x = .int d /\ 0 <= d) -> Ab H H' -> Q x H' | _ => False
def G0 : Sp := fun vs H Q _ => match vs with | [v,u,.int b,.int h] => ∃ p P S,∃ j k : Nat,Two p H P S v u /\ b = (j : Int) /\ j < P.bs.length /\ h = (k : Int) /\ k < S.ex.length /\ ∀ d H',0 <= d -> (∀ c qs,A4 (terms P S) c qs -> d <= 0 \/ d <= qs.getD k 0 - (P.bs.map (·.2)).getD j 0) -> Ab H H' -> Q (.int d) H' | _ => False
section
variable {P : Program} {w : World} {K : PySem.W.Frag} {mg : Str -> Option Value} {base : Heap}
theorem RD : Av ["plant","story"] ["plant","story"] (Ar s_least_coal) := Ax
theorem RE (F : Df K mg "least_coal" s_least_coal ["plant","story"]) (T : Tx mg) (D_coal_under : Db P w K mg base) (D_terms_of : CQ P w K mg base) : Fn P w K mg base 11 "least_coal" ["plant","story"] GR := by
 refine F.fn RD (fun vs H Q E h => ?_) (fun f cdv A outer s H vs Q E hr h => ?_)
 ·unfold GR at h; split at h; rfl; exact h.elim
 refine ⟨_,(Am (As (Ai D_coal_under (hr.mono (by decide)) rfl (Al (Ai D_terms_of (hr.mono (by decide)) rfl (Ap (cy 0) (cy 1))))))),?_⟩
 unfold GR at h
 split at h
 ·rename_i v u
  obtain ⟨p,P,S,ok,so,r,ru,q1,q2⟩ := h
  refine ⟨p,P,S,ok,so,r,ru,fun t H1 s1 rt => ⟨p,terms P S,Cb ok so,rt,fun n H2 s2 => q1 n _ (s1.trans s2),fun n f ps H2 hf s2 => q2 n f ps _ hf (s1.trans s2)⟩⟩
 ·exact h.elim
theorem RF : Av ["plant","story","firing"] ["plant","story","firing"] (Ar s_need_keeping) := Ax
theorem RG (F : Df K mg "need_keeping" s_need_keeping ["plant","story","firing"]) (T : Tx mg) (D_keeps_up : Fn P w K mg base 14 "keeps_up" ["plant","story","firing"] GI) : Fn P w K mg base 15 "need_keeping" ["plant","story","firing"] GS := by
 refine F.fn RF (fun vs H Q E h => ?_) (fun f cdv A outer s H vs Q E hr h => ?_)
 ·unfold GS at h; split at h; rfl; exact h.elim
 refine ⟨_,(Am (AU (BM (BA (Ai D_keeps_up (hr.mono (by decide)) rfl (AD (cy 0) (cy 1) (cy 2))))) (Am Dg) AT)),?_⟩
 unfold GS at h
 split at h
 ·rename_i v u w
  obtain ⟨p,P,S,F,k,t,run,q⟩ := h
  refine ⟨p,P,S,F,t,fun H1 k1 s run1 s1 => ?_⟩
  obtain ⟨rfl,rfl⟩ := run.uniq run1
  exact ⟨fun c => (by cases c),fun _ => q _ s1⟩
 ·exact h.elim
theorem RH : Av ["plant","story","firing","thing"] ["plant","story","firing","thing"] (Ar s_prices_hold) := Ax
theorem RI (F : Df K mg "prices_hold" s_prices_hold ["plant","story","firing","thing"]) (T : Tx mg) (D_coal_of : Fn P w K mg base 13 "coal_of" ["plant","story","firing"] GK) (D_floor_of : Fn P w K mg base 11 "floor_of" ["plant","story","prices"] Gu) (D_is_counts : Fn P w K mg base 2 "is_counts" ["thing","many"] E4) (D_need_keeping : Fn P w K mg base 15 "need_keeping" ["plant","story","firing"] GS) : Fn P w K mg base 16 "prices_hold" ["plant","story","firing","thing"] GT := by
 refine F.fn RH (fun vs H Q E h => ?_) (fun f cdv A outer s H vs Q E hr h => ?_)
 ·unfold GT at h; split at h; rfl; exact h.elim
 refine ⟨_,(Aj (Bo (Ai D_need_keeping (hr.mono (by decide)) rfl (AD (cy 0) (cy 1) (cy 2)))) (Am (As (Bf (Ai D_is_counts (hr.mono (by decide)) rfl (Ap (cy 3) (AF (Bb K) rfl T.b_len PySem.boot_len (Al (Az (AK K) (cy 1) Ah (fun _ _ => rfl)))))) (BF (Cv CG (Ai D_floor_of (hr.mono (by decide)) rfl (AD (cy 0) (cy 1) (cy 3))) (Ai D_coal_of (hr.mono (by decide)) rfl (AD (cy 0) (cy 1) (cy 2))) (AL _))))))),?_⟩
 unfold GT at h
 split at h
 ·rename_i v u w x
  obtain ⟨p,P,S,F,k,ns,t,run,rx,ln,n0,q⟩ := h
  refine ⟨p,P,S,F,k,t,run,fun H1 s1 => ?_⟩
  have x8 := t.so.x8
  obtain ⟨A,B,E',xf,rfl,hA,hB,hE,rf⟩ := Aa.story (Aa.ev (Ev.same s1) _ _ t.ru)
  refine ⟨A,_,0,.ref B,rfl,rfl,Ac.of hA,rfl,B,_,rfl,.inr (Ac.of hB),?_⟩
  rw [List.length_map]
  refine ⟨p,AQ ns,Aa.ev (Ev.same s1) _ _ rx,by omega,fun b H2 hb s2 => ?_⟩
  have s12 := s1.trans s2
  have e : b = true := by rw [hb,<- ln]; exact K2 n0
  subst e
  refine ⟨fun _ => ?_,fun c => (by cases c)⟩
  refine ⟨p,P,S,ns,t.ok,t.so,Aa.ev (Ev.same s12) _ _ t.r,Aa.ev (Ev.same s12) _ _ t.ru,Aa.ev (Ev.same s12) _ _ rx,ln,n0,fun H3 s3 => ?_⟩
  have s13 := s12.trans s3
  refine ⟨p,P,S,F,t.sm s13,fun H4 s4 => ⟨rfl,?_⟩⟩
  have ed : decide (V.int (A5 (terms P S) ns) = V.int (coal P F)) = decide (A5 (terms P S) ns = coal P F) := by
   rw [decide_eq_decide]; exact ⟨fun z => (by injection z),fun z => (by rw [z])⟩
  have := q _ (s13.trans s4)
  rw [<- ed] at this
  exact this
 ·exact h.elim
theorem RJ : Av ["story","hour"] ["story","hour"] (Ar s_need_hour) := Ax
theorem RK (F : Df K mg "need_hour" s_need_hour ["story","hour"]) (T : Tx mg) (D_is_whole_from : C9 P w K mg base) : Fn P w K mg base 3 "need_hour" ["story","hour"] Et := by
 refine F.fn RJ (fun vs H Q E h => ?_) (fun f cdv A outer s H vs Q E hr h => ?_)
 ·unfold Et at h; split at h; rfl; exact h.elim
 refine ⟨_,(Am (AU (BM (BA (Ai D_is_whole_from (hr.mono (by decide)) rfl (AD (cy 1) Ah (Aq AY (AF (Bb K) rfl T.b_len PySem.boot_len (Al (Az (AK K) (cy 0) Ah (fun _ _ => rfl)))) Ah))))) (Am Dg) AT)),?_⟩
 unfold Et at h
 split at h
 ·rename_i u h'
  obtain ⟨p,S,n,k,so,ru,rfl,hk,q⟩ := h
  obtain ⟨A,B,E,xf,rfl,hA,hB,hE,rf⟩ := Aa.story ru
  refine ⟨A,_,0,.ref B,rfl,rfl,Ac.of hA,rfl,B,_,rfl,.inr (Ac.of hB),p,.int (k : Int),Aa.int,fun b hb => ?_⟩
  have e : b = true := by rw [hb,List.length_map]; exact BX (by omega) (by omega)
  subst e
  exact ⟨fun c => (by cases c),fun _ => q _ (Ab.refl _)⟩
 ·exact h.elim
theorem RL : Av ["plant","boiler"] ["plant","boiler"] (Ar s_need_boiler) := Ax
theorem RM (F : Df K mg "need_boiler" s_need_boiler ["plant","boiler"]) (T : Tx mg) (D_is_whole_from : C9 P w K mg base) : Fn P w K mg base 3 "need_boiler" ["plant","boiler"] GU := by
 refine F.fn RL (fun vs H Q E h => ?_) (fun f cdv A outer s H vs Q E hr h => ?_)
 ·unfold GU at h; split at h; rfl; exact h.elim
 refine ⟨_,(Am (AU (BM (BA (Ai D_is_whole_from (hr.mono (by decide)) rfl (AD (cy 1) Ah (Aq AY (AF (Bb K) rfl T.b_len PySem.boot_len (Al (Az (AK K) (cy 0) Ah (fun _ _ => rfl)))) Ah))))) (Am Dg) AT)),?_⟩
 unfold GU at h
 split at h
 ·rename_i v b'
  obtain ⟨p,P,k,ok,r,rfl,hk,q⟩ := h
  obtain ⟨PA,PB,PE,PM,xb,xe,rfl,pA,pB,rb,pE,re,pM⟩ := Aa.plant r
  have lb := rb.len
  rw [List.length_map] at lb
  refine ⟨PA,_,0,.ref PB,rfl,rfl,Ac.of pA,rfl,PB,_,rfl,.inr (Ac.of pB),p,.int (k : Int),Aa.int,fun b hb => ?_⟩
  have e : b = true := by rw [hb]; exact BX (by omega) (by omega)
  subst e
  exact ⟨fun c => (by cases c),fun _ => q _ (Ab.refl _)⟩
 ·exact h.elim
theorem sc_coal_or_refuse : Av ["terms","coal"] ["terms"] (Ar s_coal_or_refuse) := Ax
abbrev DT (P : Program) (w : World) (K : PySem.W.Frag) (mg : Str -> Option Value) (base : Heap) : Prop := Fn P w K mg base 5 "coal_or_refuse" ["terms"] Io
theorem RN (F : Df K mg "coal_or_refuse" s_coal_or_refuse ["terms"]) (T : Tx mg) (D_coal_under : Db P w K mg base) : DT P w K mg base := by
 refine F.fn sc_coal_or_refuse (fun vs H Q E h => ?_) (fun f cdv A outer s H vs Q E hr h => ?_)
 ·unfold Io at h; split at h; rfl; exact h.elim
 refine ⟨_,(Aj (AE (i := 1) sc_coal_or_refuse.nd rfl (Aw (by rfl)) (Ai D_coal_under (hr.mono (by decide)) rfl (Al (cy 0)))) (Aj (AU (AN Fm (cy 1) BE (AL _)) (Am Dg) AT) (Am (As (cy 1))))),?_⟩
 unfold Io at h
 split at h
 ·rename_i v
  obtain ⟨p,T,fl,r,no,q⟩ := h
  refine ⟨p,T,fl,r,fun n => absurd no n,fun _ f ps H1 hf s1 => ⟨rfl,⟨fun c => by simp at c,fun _ => q f ps _ hf s1⟩⟩⟩
 ·exact h.elim
theorem sc_more_drawn : Av ["plant","story","hour","terms","coal","caps","coals","draws","main","grown"] ["plant","story","hour"] (Ar s_more_drawn) := Ax
theorem RO (F : Df K mg "more_drawn" s_more_drawn ["plant","story","hour"]) (T : Tx mg) (D_added : Fn P w K mg base 2 "added" ["row","at","units"] Ep) (D_coal_or_refuse : DT P w K mg base) (D_coal_under : Db P w K mg base) (D_need_hour : Fn P w K mg base 3 "need_hour" ["story","hour"] Et) (D_terms_of : CQ P w K mg base) : Fn P w K mg base 11 "more_drawn" ["plant","story","hour"] GV := by
 refine F.fn sc_more_drawn (fun vs H Q E h => ?_) (fun f cdv A outer s H vs Q E hr h => ?_)
 ·unfold GV at h; split at h; rfl; exact h.elim
 refine ⟨_,(Aj (AE (i := 3) sc_more_drawn.nd rfl (Aw (by rfl)) (Ai D_terms_of (hr.mono (by decide)) rfl (Ap (cy 0) (cy 1)))) (Aj (Bo (Ai D_need_hour (hr.mono (by decide)) rfl (Ap (cy 1) (cy 2)))) (Aj (AE (i := 4) sc_more_drawn.nd rfl (Aw (by rfl)) (Ai D_coal_or_refuse (hr.mono (by decide)) rfl (Al (cy 3)))) (Aj (AR (cy 3) (AC K (n := 4) (Ag (Af 5 sc_more_drawn.nd) (Ag (Af 6 sc_more_drawn.nd) (Ag (Af 7 sc_more_drawn.nd) (Ag (Af 8 sc_more_drawn.nd) AB)))))) (Aj (AE (i := 9) sc_more_drawn.nd rfl (Aw (by rfl)) (Ai D_coal_under (hr.mono (by decide)) rfl (Al (AZ (Bl (cy 5) (cy 6) (Ai D_added (hr.mono (by decide)) rfl (AD (cy 7) (cy 2) Ah)) (cy 8)))))) (Am (As (EM (AN Fm (cy 9) BE (AL _)) BE (Aq AY (cy 9) (cy 4)))))))))),?_⟩
 unfold GV at h
 split at h
 ·rename_i v u hh
  obtain ⟨p,P,S,k,tw,rfl,hk,q⟩ := h
  have ok := tw.ok
  have so := tw.so
  have fl := Cb ok so
  have yes := tw.no
  have hp0 := ok.lo0
  have hp1 := ok.ls
  have hp2 := ok.sh
  have hp3 := ok.h4
  refine ⟨p,P,S,ok,so,tw.r,tw.ru,fun tv H1 s1 rt => ?_⟩
  refine ⟨p,S,P.bs.length,k,so,Aa.ev (Ev.same s1) _ _ tw.ru,rfl,hk,fun Hh sh => ?_⟩
  have ldd : (draws P S).length = S.ex.length := draws_len
  have bdk := FQ ok so _ (getD_mem (l := draws P S) (d := 0) (i := k) (by omega))
  have x8 := so.x8
  refine ⟨p,terms P S,fl,(Aa.ev (Ev.same sh) _ _ rt),yes,fun c qs H2 hf s2 => ?_⟩
  have sA := (s1.trans sh).trans s2
  obtain ⟨A,C,B,D,M,xc,rfl,hA,hC,rc,hB,hD,hM⟩ := Aa.terms (Aa.ev (Ev.same s2) _ _ (Aa.ev (Ev.same sh) _ _ rt))
  refine ⟨A,_,rfl,Ac.of hA,rfl,_,_,rfl,_,_,rfl,_,_,rfl,_,_,rfl,rfl,?_⟩
  refine ⟨draws P S,k,rfl,by omega,by omega,hD,fun B2 H3 s3 k3 => fun t2 ht2 => ?_⟩
  have n2 := Ab.new (o := .tup [.ref C,.ref B,.ref B2,.ref M]) ht2
  have n12 := s3.trans n2
  have rep := Es (p := p) (T := { terms P S with ds := (draws P S).set k ((draws P S).getD k 0 + 1) }) Ak (n12 _ _ hC) (Ad.ev (Ev.same n12) _ _ rc) (n12 _ _ hB) (n2 _ _ k3) (n12 _ _ hM)
  refine ⟨p,_,Lg fl (by omega) (by omega),rep,fun no H4 s4 => ⟨rfl,⟨fun _ => q _ _ (.inl rfl) (sA.trans (n12.trans s4)),fun c => by simp at c⟩⟩,fun _ f2 ps H4 hf2 s4 => ⟨rfl,⟨fun c => by simp at c,fun _ => q _ _ (.inr ⟨_,rfl,fun c' qs' h' => ?_⟩) (sA.trans (n12.trans s4))⟩⟩⟩
  have e := GQ hf h'
  have := KT (T := terms P S) (k := k) (u := 1) (by show k < (draws P S).length; omega) h' hf2
  omega
 ·exact h.elim
theorem sc_less_drawn : Av ["plant","story","hour","terms","coal","caps","coals","draws","main"] ["plant","story","hour"] (Ar s_less_drawn) := Ax
theorem RP (F : Df K mg "less_drawn" s_less_drawn ["plant","story","hour"]) (T : Tx mg) (D_added : Fn P w K mg base 2 "added" ["row","at","units"] Ep) (D_coal_or_refuse : DT P w K mg base) (D_coal_under : Db P w K mg base) (D_need_hour : Fn P w K mg base 3 "need_hour" ["story","hour"] Et) (D_terms_of : CQ P w K mg base) : Fn P w K mg base 11 "less_drawn" ["plant","story","hour"] GW := by
 refine F.fn sc_less_drawn (fun vs H Q E h => ?_) (fun f cdv A outer s H vs Q E hr h => ?_)
 ·unfold GW at h; split at h; rfl; exact h.elim
 refine ⟨_,(Aj (AE (i := 3) sc_less_drawn.nd rfl (Aw (by rfl)) (Ai D_terms_of (hr.mono (by decide)) rfl (Ap (cy 0) (cy 1)))) (Aj (Bo (Ai D_need_hour (hr.mono (by decide)) rfl (Ap (cy 1) (cy 2)))) (Aj (AE (i := 4) sc_less_drawn.nd rfl (Aw (by rfl)) (Ai D_coal_or_refuse (hr.mono (by decide)) rfl (Al (cy 3)))) (Aj (AR (cy 3) (AC K (n := 4) (Ag (Af 5 sc_less_drawn.nd) (Ag (Af 6 sc_less_drawn.nd) (Ag (Af 7 sc_less_drawn.nd) (Ag (Af 8 sc_less_drawn.nd) AB)))))) (Aj (AU (AN CG (Az (AK K) (cy 7) (cy 2) (fun _ _ => rfl)) Ah (AL _)) (Am (As BE)) AT) (Am (As (Aq AY (cy 4) (Ai D_coal_under (hr.mono (by decide)) rfl (Al (AZ (Bl (cy 5) (cy 6) (Ai D_added (hr.mono (by decide)) rfl (AD (cy 7) (cy 2) Ru)) (cy 8))))))))))))),?_⟩
 unfold GW at h
 split at h
 ·rename_i v u hh
  obtain ⟨p,P,S,k,tw,rfl,hk,q⟩ := h
  have ok := tw.ok
  have so := tw.so
  have fl := Cb ok so
  have yes := tw.no
  have hp0 := ok.lo0
  have hp1 := ok.ls
  have hp2 := ok.sh
  have hp3 := ok.h4
  refine ⟨p,P,S,ok,so,tw.r,tw.ru,fun tv H1 s1 rt => ?_⟩
  refine ⟨p,S,P.bs.length,k,so,Aa.ev (Ev.same s1) _ _ tw.ru,rfl,hk,fun Hh sh => ?_⟩
  have ldd : (draws P S).length = S.ex.length := draws_len
  have bdk := FQ ok so _ (getD_mem (l := draws P S) (d := 0) (i := k) (by omega))
  have x8 := so.x8
  refine ⟨p,terms P S,fl,(Aa.ev (Ev.same sh) _ _ rt),yes,fun c qs H2 hf s2 => ?_⟩
  have sA := (s1.trans sh).trans s2
  obtain ⟨A,C,B,D,M,xc,rfl,hA,hC,rc,hB,hD,hM⟩ := Aa.terms (Aa.ev (Ev.same s2) _ _ (Aa.ev (Ev.same sh) _ _ rt))
  refine ⟨A,_,rfl,Ac.of hA,rfl,_,_,rfl,_,_,rfl,_,_,rfl,_,_,rfl,rfl,?_⟩
  refine ⟨D,_,_,.int ((draws P S).getD k 0),rfl,rfl,Ac.of hD,Bw (ns := draws P S) (by omega),rfl,⟨fun c => q _ _ (.inl ⟨?_,rfl⟩) sA,fun c => ?_⟩⟩
  ·rw [Cu] at c; simpa using c
  have c' : (draws P S).getD k 0 ≠ 0 := fun z => by
   rw [Cu,z] at c
   simp at c
  refine ⟨draws P S,k,rfl,by omega,by omega,hD,fun B2 H3 s3 k3 => fun t2 ht2 => ?_⟩
  have n2 := Ab.new (o := .tup [.ref C,.ref B,.ref B2,.ref M]) ht2
  have n12 := s3.trans n2
  have rep := Es (p := p) (T := { terms P S with ds := (draws P S).set k ((draws P S).getD k 0 + -1) }) Ak (n12 _ _ hC) (Ad.ev (Ev.same n12) _ _ rc) (n12 _ _ hB) (n2 _ _ k3) (n12 _ _ hM)
  refine ⟨p,_,Lg fl (by omega) (by omega),rep,fun no => absurd (HR (T := terms P S) (U := { terms P S with ds := (draws P S).set k ((draws P S).getD k 0 + -1) }) (by show (draws P S).length = ((draws P S).set k _).length; rw [List.length_set]) (fun i => ?_) rfl (fun i => Int.le_refl _) (Int.le_refl _) (Int.le_refl _) (Int.le_refl _) yes) no,fun _ f2 ps H4 hf2 s4 => q _ _ (.inr ⟨c',_,rfl,fun c'' qs' h' => ?_⟩) (sA.trans (n12.trans s4))⟩
  ·show ((draws P S).set k _).getD i 0 <= (draws P S).getD i 0
   rw [KM (by omega)]
   split
   ·rename_i z; rw [z]; omega
   ·exact Int.le_refl _
  ·have e := GQ hf h'
   have := KT (T := terms P S) (k := k) (u := -1) (by show k < (draws P S).length; omega) h' hf2
   omega
 ·exact h.elim
theorem sc_wider : Av ["plant","story","terms","coal","caps","coals","draws","low","high","start"] ["plant","story"] (Ar s_wider) := Ax
theorem RQ (F : Df K mg "wider" s_wider ["plant","story"]) (T : Tx mg) (D_coal_or_refuse : DT P w K mg base) (D_coal_under : Db P w K mg base) (D_terms_of : CQ P w K mg base) : Fn P w K mg base 11 "wider" ["plant","story"] GX := by
 refine F.fn sc_wider (fun vs H Q E h => ?_) (fun f cdv A outer s H vs Q E hr h => ?_)
 ·unfold GX at h; split at h; rfl; exact h.elim
 refine ⟨_,(Aj (AE (i := 2) sc_wider.nd rfl (Aw (by rfl)) (Ai D_terms_of (hr.mono (by decide)) rfl (Ap (cy 0) (cy 1)))) (Aj (AE (i := 3) sc_wider.nd rfl (Aw (by rfl)) (Ai D_coal_or_refuse (hr.mono (by decide)) rfl (Al (cy 2)))) (Aj (AR (cy 2) (AC K (n := 4) (Ag (Af 4 sc_wider.nd) (Ag (Af 5 sc_wider.nd) (Ag (Af 6 sc_wider.nd) (Ag (AC K (n := 3) (Ag (Af 7 sc_wider.nd) (Ag (Af 8 sc_wider.nd) (Ag (Af 9 sc_wider.nd) AB)))) AB)))))) (Am (As (Aq AY (cy 3) (Ai D_coal_under (hr.mono (by decide)) rfl (Al (AZ (Bl (cy 4) (cy 5) (cy 6) (AZ (AD (cy 7) (Aq AV (cy 8) Ah) (cy 9))))))))))))),?_⟩
 unfold GX at h
 split at h
 ·rename_i v u
  obtain ⟨p,P,S,tw,q⟩ := h
  have ok := tw.ok
  have so := tw.so
  have fl := Cb ok so
  have yes := tw.no
  have hp0 := ok.lo0
  have hp1 := ok.ls
  have hp2 := ok.sh
  have hp3 := ok.h4
  refine ⟨p,P,S,ok,so,tw.r,tw.ru,fun tv H1 s1 rt => ?_⟩
  refine ⟨p,terms P S,fl,rt,yes,fun c qs H2 hf s2 => ?_⟩
  have sA := s1.trans s2
  obtain ⟨A,C,B,D,M,xc,rfl,hA,hC,rc,hB,hD,hM⟩ := Aa.terms (Aa.ev (Ev.same s2) _ _ rt)
  refine ⟨A,_,rfl,Ac.of hA,rfl,_,_,rfl,_,_,rfl,_,_,rfl,_,_,rfl,M,_,rfl,Ac.of hM,rfl,_,_,rfl,_,_,rfl,_,_,rfl,rfl,rfl,?_⟩
  refine fun t1 ht1 t2 ht2 => ?_
  have n1 := Ab.new (o := .tup [.int (P.lo),.int (P.hi + 1),.int (P.st)]) ht1
  have n2 := Ab.new (o := .tup [.ref C,.ref B,.ref D,.ref t1]) ht2
  have n12 := n1.trans n2
  refine ⟨p,{ terms P S with hi := P.hi + 1 },Ry fl (by omega) (by omega),Es Ak (n12 _ _ hC) (Ad.ev (Ev.same n12) _ _ rc) (n12 _ _ hB) (n12 _ _ hD) (n2 _ _ Ak),fun no => absurd (Im (T := terms P S) (U := { terms P S with hi := P.hi + 1 }) rfl rfl (Int.le_refl _) (show P.hi <= P.hi + 1 by omega) (Int.le_refl _) yes) no,fun _ f2 ps H3 hf2 s3 => q _ _ (.inr ⟨_,rfl,by have := PP hf hf2; omega⟩) (sA.trans (n12.trans s3))⟩
 ·exact h.elim
theorem sc_lower : Av ["plant","story","terms","coal","caps","coals","draws","low","high","start"] ["plant","story"] (Ar s_lower) := Ax
theorem RR (F : Df K mg "lower" s_lower ["plant","story"]) (T : Tx mg) (D_coal_or_refuse : DT P w K mg base) (D_coal_under : Db P w K mg base) (D_terms_of : CQ P w K mg base) : Fn P w K mg base 11 "lower" ["plant","story"] GY := by
 refine F.fn sc_lower (fun vs H Q E h => ?_) (fun f cdv A outer s H vs Q E hr h => ?_)
 ·unfold GY at h; split at h; rfl; exact h.elim
 refine ⟨_,(Aj (AE (i := 2) sc_lower.nd rfl (Aw (by rfl)) (Ai D_terms_of (hr.mono (by decide)) rfl (Ap (cy 0) (cy 1)))) (Aj (AE (i := 3) sc_lower.nd rfl (Aw (by rfl)) (Ai D_coal_or_refuse (hr.mono (by decide)) rfl (Al (cy 2)))) (Aj (AR (cy 2) (AC K (n := 4) (Ag (Af 4 sc_lower.nd) (Ag (Af 5 sc_lower.nd) (Ag (Af 6 sc_lower.nd) (Ag (AC K (n := 3) (Ag (Af 7 sc_lower.nd) (Ag (Af 8 sc_lower.nd) (Ag (Af 9 sc_lower.nd) AB)))) AB)))))) (Aj (AU (AN CG (cy 7) Ah (AL _)) (Am (As BE)) AT) (Am (As (Aq AY (cy 3) (Ai D_coal_under (hr.mono (by decide)) rfl (Al (AZ (Bl (cy 4) (cy 5) (cy 6) (AZ (AD (Aq AY (cy 7) Ah) (cy 8) (cy 9)))))))))))))),?_⟩
 unfold GY at h
 split at h
 ·rename_i v u
  obtain ⟨p,P,S,tw,q⟩ := h
  have ok := tw.ok
  have so := tw.so
  have fl := Cb ok so
  have yes := tw.no
  have hp0 := ok.lo0
  have hp1 := ok.ls
  have hp2 := ok.sh
  have hp3 := ok.h4
  refine ⟨p,P,S,ok,so,tw.r,tw.ru,fun tv H1 s1 rt => ?_⟩
  refine ⟨p,terms P S,fl,rt,yes,fun c qs H2 hf s2 => ?_⟩
  have sA := s1.trans s2
  obtain ⟨A,C,B,D,M,xc,rfl,hA,hC,rc,hB,hD,hM⟩ := Aa.terms (Aa.ev (Ev.same s2) _ _ rt)
  refine ⟨A,_,rfl,Ac.of hA,rfl,_,_,rfl,_,_,rfl,_,_,rfl,_,_,rfl,M,_,rfl,Ac.of hM,rfl,_,_,rfl,_,_,rfl,_,_,rfl,rfl,rfl,?_⟩
  refine ⟨rfl,⟨fun c => q _ _ (.inl rfl) sA,fun c => ?_⟩⟩
  have c' : P.lo ≠ 0 := fun z => by
   rw [Cu] at c
   rw [show (terms P S).lo = 0 from z] at c; simp at c
  refine fun t1 ht1 t2 ht2 => ?_
  have n1 := Ab.new (o := .tup [.int (P.lo - 1),.int (P.hi),.int (P.st)]) ht1
  have n2 := Ab.new (o := .tup [.ref C,.ref B,.ref D,.ref t1]) ht2
  have n12 := n1.trans n2
  refine ⟨p,{ terms P S with lo := P.lo - 1 },Rz fl (by omega) (by omega),Es Ak (n12 _ _ hC) (Ad.ev (Ev.same n12) _ _ rc) (n12 _ _ hB) (n12 _ _ hD) (n2 _ _ Ak),fun no => absurd (Im (T := terms P S) (U := { terms P S with lo := P.lo - 1 }) rfl rfl (Int.le_refl _) (Int.le_refl _) (show P.lo - 1 <= P.lo by omega) yes) no,fun _ f2 ps H3 hf2 s3 => q _ _ (.inr ⟨_,rfl,by have := PQ hf hf2; omega⟩) (sA.trans (n12.trans s3))⟩
 ·exact h.elim
theorem sc_fuller : Av ["plant","story","terms","coal","caps","coals","draws","low","high","start"] ["plant","story"] (Ar s_fuller) := Ax
theorem RS (F : Df K mg "fuller" s_fuller ["plant","story"]) (T : Tx mg) (D_coal_or_refuse : DT P w K mg base) (D_coal_under : Db P w K mg base) (D_terms_of : CQ P w K mg base) : Fn P w K mg base 11 "fuller" ["plant","story"] GZ := by
 refine F.fn sc_fuller (fun vs H Q E h => ?_) (fun f cdv A outer s H vs Q E hr h => ?_)
 ·unfold GZ at h; split at h; rfl; exact h.elim
 refine ⟨_,(Aj (AE (i := 2) sc_fuller.nd rfl (Aw (by rfl)) (Ai D_terms_of (hr.mono (by decide)) rfl (Ap (cy 0) (cy 1)))) (Aj (AE (i := 3) sc_fuller.nd rfl (Aw (by rfl)) (Ai D_coal_or_refuse (hr.mono (by decide)) rfl (Al (cy 2)))) (Aj (AR (cy 2) (AC K (n := 4) (Ag (Af 4 sc_fuller.nd) (Ag (Af 5 sc_fuller.nd) (Ag (Af 6 sc_fuller.nd) (Ag (AC K (n := 3) (Ag (Af 7 sc_fuller.nd) (Ag (Af 8 sc_fuller.nd) (Ag (Af 9 sc_fuller.nd) AB)))) AB)))))) (Aj (AU (AN CG (cy 9) (cy 8) (AL _)) (Am (As BE)) AT) (Am (As (Aq AY (cy 3) (Ai D_coal_under (hr.mono (by decide)) rfl (Al (AZ (Bl (cy 4) (cy 5) (cy 6) (AZ (AD (cy 7) (cy 8) (Aq AV (cy 9) Ah)))))))))))))),?_⟩
 unfold GZ at h
 split at h
 ·rename_i v u
  obtain ⟨p,P,S,tw,q⟩ := h
  have ok := tw.ok
  have so := tw.so
  have fl := Cb ok so
  have yes := tw.no
  have hp0 := ok.lo0
  have hp1 := ok.ls
  have hp2 := ok.sh
  have hp3 := ok.h4
  refine ⟨p,P,S,ok,so,tw.r,tw.ru,fun tv H1 s1 rt => ?_⟩
  refine ⟨p,terms P S,fl,rt,yes,fun c qs H2 hf s2 => ?_⟩
  have sA := s1.trans s2
  obtain ⟨A,C,B,D,M,xc,rfl,hA,hC,rc,hB,hD,hM⟩ := Aa.terms (Aa.ev (Ev.same s2) _ _ rt)
  refine ⟨A,_,rfl,Ac.of hA,rfl,_,_,rfl,_,_,rfl,_,_,rfl,_,_,rfl,M,_,rfl,Ac.of hM,rfl,_,_,rfl,_,_,rfl,_,_,rfl,rfl,rfl,?_⟩
  refine ⟨rfl,⟨fun c => q _ _ (.inl rfl) sA,fun c => ?_⟩⟩
  refine fun t1 ht1 t2 ht2 => ?_
  have n1 := Ab.new (o := .tup [.int (P.lo),.int (P.hi),.int (P.st + 1)]) ht1
  have n2 := Ab.new (o := .tup [.ref C,.ref B,.ref D,.ref t1]) ht2
  have n12 := n1.trans n2
  refine ⟨p,{ terms P S with st := P.st + 1 },RA fl (by omega) (by omega),Es Ak (n12 _ _ hC) (Ad.ev (Ev.same n12) _ _ rc) (n12 _ _ hB) (n12 _ _ hD) (n2 _ _ Ak),fun no => absurd (Im (T := terms P S) (U := { terms P S with st := P.st + 1 }) rfl rfl (show P.st <= P.st + 1 by omega) (Int.le_refl _) (Int.le_refl _) yes) no,fun _ f2 ps H3 hf2 s3 => q _ _ (.inr ⟨_,rfl,by have := PR fl hf hf2; omega⟩) (sA.trans (n12.trans s3))⟩
 ·exact h.elim
theorem sc_better : Av ["plant","story","boiler","hour","terms","coal","caps","coals","draws","main","grown"] ["plant","story","boiler","hour"] (Ar s_better) := Ax
theorem RT (F : Df K mg "better" s_better ["plant","story","boiler","hour"]) (T : Tx mg) (D_added : Fn P w K mg base 2 "added" ["row","at","units"] Ep) (D_coal_or_refuse : DT P w K mg base) (D_coal_under : Db P w K mg base) (D_need_boiler : Fn P w K mg base 3 "need_boiler" ["plant","boiler"] GU) (D_need_hour : Fn P w K mg base 3 "need_hour" ["story","hour"] Et) (D_replaced : Fn P w K mg base 1 "replaced" ["row","at","part"] E8) (D_terms_of : CQ P w K mg base) : Fn P w K mg base 11 "better" ["plant","story","boiler","hour"] G0 := by
 refine F.fn sc_better (fun vs H Q E h => ?_) (fun f cdv A outer s H vs Q E hr h => ?_)
 ·unfold G0 at h; split at h; rfl; exact h.elim
 refine ⟨_,(Aj (AE (i := 4) sc_better.nd rfl (Aw (by rfl)) (Ai D_terms_of (hr.mono (by decide)) rfl (Ap (cy 0) (cy 1)))) (Aj (Bo (Ai D_need_boiler (hr.mono (by decide)) rfl (Ap (cy 0) (cy 2)))) (Aj (Bo (Ai D_need_hour (hr.mono (by decide)) rfl (Ap (cy 1) (cy 3)))) (Aj (AE (i := 5) sc_better.nd rfl (Aw (by rfl)) (Ai D_coal_or_refuse (hr.mono (by decide)) rfl (Al (cy 4)))) (Aj (AR (cy 4) (AC K (n := 4) (Ag (Af 6 sc_better.nd) (Ag (Af 7 sc_better.nd) (Ag (Af 8 sc_better.nd) (Ag (Af 9 sc_better.nd) AB)))))) (Aj (AE (i := 10) sc_better.nd rfl (Aw (by rfl)) (Ai D_replaced (hr.mono (by decide)) rfl (AD (cy 6) (cy 3) (Ai D_added (hr.mono (by decide)) rfl (AD (Az (AK K) (cy 6) (cy 3) (fun _ _ => rfl)) (cy 2) Ah))))) (Am (As (Aq AY (cy 5) (Ai D_coal_under (hr.mono (by decide)) rfl (Al (AZ (Bl (cy 10) (cy 7) (cy 8) (cy 9)))))))))))))),?_⟩
 unfold G0 at h
 split at h
 ·rename_i v u bb hh
  obtain ⟨p,P,S,jn,k,tw,rfl,hj,rfl,hk,q⟩ := h
  have ok := tw.ok
  have so := tw.so
  have fl := Cb ok so
  have yes := tw.no
  have hp0 := ok.lo0
  have hp1 := ok.ls
  have hp2 := ok.sh
  have hp3 := ok.h4
  refine ⟨p,P,S,ok,so,tw.r,tw.ru,fun tv H1 s1 rt => ?_⟩
  refine ⟨p,P,jn,ok,Aa.ev (Ev.same s1) _ _ tw.r,rfl,hj,fun Hb sb => ?_⟩
  have s1b := s1.trans sb
  refine ⟨p,S,P.bs.length,k,so,Aa.ev (Ev.same s1b) _ _ tw.ru,rfl,hk,fun Hh sh => ?_⟩
  have ldd : (draws P S).length = S.ex.length := draws_len
  have bdk := FQ ok so _ (getD_mem (l := draws P S) (d := 0) (i := k) (by omega))
  have x8 := so.x8
  refine ⟨p,terms P S,fl,(Aa.ev (Ev.same (sb.trans sh)) _ _ rt),yes,fun c qs H2 hf s2 => ?_⟩
  have sA := (s1b.trans sh).trans s2
  obtain ⟨A,C,B,D,M,xc,rfl,hA,hC,rc,hB,hD,hM⟩ := Aa.terms (Aa.ev (Ev.same s2) _ _ (Aa.ev (Ev.same (sb.trans sh)) _ _ rt))
  refine ⟨A,_,rfl,Ac.of hA,rfl,_,_,rfl,_,_,rfl,_,_,rfl,_,_,rfl,rfl,?_⟩
  have b4 := ok.b4
  have hrow : (caps P S)[k]? = some ((caps P S).getD k []) := by rw [List.getD_eq_getElem?_getD,Do hk]; rfl
  obtain ⟨cr,lr⟩ := FP (S := S) ok _ (List.mem_of_getElem? hrow)
  obtain ⟨y,hy,ry⟩ := rc.get (i := k) (d := AQ ((caps P S).getD k [])) (by rw [List.getElem?_map]; show (caps P S)[k]?.map AQ = _; rw [hrow]; rfl)
  obtain ⟨Cn,rfl,hCn⟩ := Aa.ofRow' ry
  have lxc := rc.len
  rw [List.length_map] at lxc
  have lcs : (terms P S).cs.length = S.ex.length := C0
  refine ⟨C,xc,(k : Int),.ref Cn,rfl,rfl,Ac.of hC,B9 hy,(caps P S).getD k [],jn,rfl,by omega,by omega,hCn,fun B2 H3 s3 k3 => ⟨xc,k,rfl,by omega,by omega,s3 _ _ hC,fun C2 H4 s4 k4 => ?_⟩⟩
  have s34 := s3.trans s4
  refine fun t2 ht2 => ?_
  have n2 := Ab.new (o := .tup [.ref C2,.ref B,.ref D,.ref M]) ht2
  have n12 := s34.trans n2
  have bj := cr _ (getD_mem (l := (caps P S).getD k []) (d := 0) (i := jn) (by omega))
  have rcs : Ad p (upd H4 t2 (.tup [.ref C2,.ref B,.ref D,.ref M])) (((caps P S).set k (((caps P S).getD k []).set jn (((caps P S).getD k []).getD jn 0 + 1))).map AQ) (xc.set k (.ref B2)) := by
   rw [List.map_set]
   exact Lf (Aa.row ((s4.trans n2) _ _ k3)) k (Ad.ev (Ev.same n12) _ _ rc)
  have fl2 : A9 { terms P S with cs := (caps P S).set k (((caps P S).getD k []).set jn (((caps P S).getD k []).getD jn 0 + 1)) } := RB fl (by rw [List.length_set,lr]; show P.bs.length = (P.bs.map (·.2)).length; rw [List.length_map]) fun c hc => by
   rcases List.mem_or_eq_of_mem_set hc with hc | rfl
   ·have := cr c hc; omega
   ·omega
  have rep := Es (p := p) (T := { terms P S with cs := (caps P S).set k (((caps P S).getD k []).set jn (((caps P S).getD k []).getD jn 0 + 1)) }) Ak (n2 _ _ k4) rcs (n12 _ _ hB) (n12 _ _ hD) (n12 _ _ hM)
  have lco : (P.bs.map (·.2)).length = P.bs.length := List.length_map _
  refine ⟨p,_,fl2,rep,fun no => absurd (HR (T := terms P S) (U := { terms P S with cs := (caps P S).set k (((caps P S).getD k []).set jn (((caps P S).getD k []).getD jn 0 + 1)) }) rfl (fun i => Int.le_refl _) (by show (caps P S).length = ((caps P S).set k _).length; rw [List.length_set]) (fun i => ?_) (Int.le_refl _) (Int.le_refl _) (Int.le_refl _) yes) no,fun _ f2 ps H5 hf2 s5 => ?_⟩
  ·show ((caps P S).getD i []).sum <= (((caps P S).set k (((caps P S).getD k []).set jn (((caps P S).getD k []).getD jn 0 + 1))).getD i []).sum
   rw [KP (by rw [C0]; exact hk)]
   split
   ·rename_i z
    rw [z,RC (by omega)]
    omega
   ·exact Int.le_refl _
  ·have bl := fun {c' : Int} {qs' : List Int} (h' : A4 (terms P S) c' qs') => PU (T := terms P S) (k := k) (j := jn) (by rw [lcs]; exact hk) (by rw [lcs]; exact draws_len.symm) (by show jn < ((caps P S).getD k []).length; omega) (by show ((caps P S).getD k []).length = (P.bs.map (·.2)).length; omega) h' hf2
   refine q _ _ (by have := (bl hf).1; omega) (fun c' qs' h' => ?_) (sA.trans (n12.trans s5))
   have e := GQ hf h'
   have := (bl h').2
   show _ \/ c - f2 <= qs'.getD k 0 - (terms P S).co.getD jn 0
   omega
 ·exact h.elim
end
def G1 : Sp := fun vs H Q _ => match vs with | [v,u,.int pr,.int h] => ∃ p P S,∃ k : Nat,∃ c qs,Two p H P S v u /\ h = (k : Int) /\ k < S.ex.length /\ A4 (terms P S) c qs /\ pr = qs.getD k 0 /\ ∀ H',Ab H H' -> Q (.bl true) H' | _ => False
theorem Two.sm {p : Addr} {H H' : Hp} {P : PL} {S : SY} {v u : V} (t : Two p H P S v u) (s : Ab H H') : Two p H' P S v u := ⟨t.ok,t.so,Aa.ev (Ev.same s) _ _ t.r,Aa.ev (Ev.same s) _ _ t.ru,t.no⟩
section
variable {P : Program} {w : World} {K : PySem.W.Frag} {mg : Str -> Option Value} {base : Heap}
theorem sc__law_hour_right : Av ["_law_plant_here","_law_story_here","_law_price","_law_hour","_law_more","_law_less","_law_boiler","_law_spared"] ["_law_plant_here","_law_story_here","_law_price","_law_hour"] (Ar s__law_hour_right) := Ax
theorem RU (F : Df K mg "_law_hour_right" s__law_hour_right ["_law_plant_here","_law_story_here","_law_price","_law_hour"]) (T : Tx mg) (D_better : Fn P w K mg base 11 "better" ["plant","story","boiler","hour"] G0) (D_draws_of : Fn P w K mg base 9 "draws_of" ["plant","story"] Eo) (D_less_drawn : Fn P w K mg base 11 "less_drawn" ["plant","story","hour"] GW) (D_more_drawn : Fn P w K mg base 11 "more_drawn" ["plant","story","hour"] GV) : Fn P w K mg base 12 "_law_hour_right" ["_law_plant_here","_law_story_here","_law_price","_law_hour"] G1 := by
 refine F.fn sc__law_hour_right (fun vs H Q E h => ?_) (fun f cdv A outer s H vs Q E hr h => ?_)
 ·unfold G1 at h; split at h; rfl; exact h.elim
 refine ⟨_,(Aj (IA (i := 4) (j := 5) rfl sc__law_hour_right.nd rfl rfl (by decide) rfl rfl (Ap (Ai D_more_drawn (hr.mono (by decide)) rfl (AD (cy 0) (cy 1) (cy 3))) (Ai D_less_drawn (hr.mono (by decide)) rfl (AD (cy 0) (cy 1) (cy 3)))) (by rfl)) (Aj (AU (PW.pt (EL (PW.pt (DI (AN Ez (cy 4) BE (AL _)) (DV (AN FK (cy 2) (cy 4) (AL _))))) (Ff (PW.pt (DI (AN Ez (cy 5) BE (AL _)) (DV (AN Cz (cy 2) (cy 5) (AL _)))))))) (Am (As BY)) AT) (Aj (AU (AN Fl (Cv Fm (cy 5) BE (AL _)) (Cv CG (Az (AK K) (Ai D_draws_of (hr.mono (by decide)) rfl (Ap (cy 0) (cy 1))) (cy 3) (fun _ _ => rfl)) Ah (AL _)) (AL _)) (Am (As BY)) AT) (Aj (BG PassesOwn.never rfl (BN rfl T.b_range (Al (AF (Bb K) rfl T.b_len PySem.boot_len (Al (Az (AK K) (cy 0) Ah (fun _ _ => rfl)))))) (Af 6 sc__law_hour_right.nd) (Aj (AE (i := 7) sc__law_hour_right.nd rfl (Aw (by rfl)) (Ai D_better (hr.mono (by decide)) rfl (Bl (cy 0) (cy 1) (cy 6) (cy 3)))) (Am (AU (PW.pt (EL (AN Cz (cy 7) Ah (AL _)) (Ff (AN FK (cy 7) (AF (Hc rfl) rfl T.b_max boot_max (Ap Ah (Aq AY (cy 2) (Az (AK K) (Az (AK K) (Az (AK K) (cy 0) Ah (fun _ _ => rfl)) (cy 6) (fun _ _ => rfl)) Ah (fun _ _ => rfl))))) (AL _))))) (Am (As BY)) AT)))) (Am (As BY)))))),?_⟩
 unfold G1 at h
 split at h
 ·rename_i v u pr h'
  obtain ⟨p,P,S,k,c,qs,tw,rfl,hk,hf,rfl,q⟩ := h
  have ok := tw.ok
  have so := tw.so
  have f := fun {H H' : Hp} (s : Ab H H') => Ev.same (p := p) s
  have ldd : (draws P S).length = S.ex.length := draws_len
  have b4 := ok.b4
  have nn : ∀ d : Int,decide (V.int d = V.non) = false := fun d => decide_eq_false (fun z => by cases z)
  refine ⟨p,P,S,k,tw,rfl,hk,fun x1 H1 hx1 s1 => ⟨p,P,S,k,tw.sm s1,rfl,hk,fun x2 H2 hx2 s2 => ⟨_,_,rfl,?_⟩⟩⟩
  have s12 := s1.trans s2
  have tw2 := tw.sm s12
  rcases hx1 with rfl | ⟨d1,rfl,le1⟩
  ·refine ⟨rfl,⟨fun z => absurd z (by decide),fun _ => ⟨fun z => (by cases z),fun _ => ?_⟩⟩⟩
   rcases hx2 with ⟨z0,rfl⟩ | ⟨z0,d2,rfl,le2⟩
   ·refine ⟨rfl,⟨fun z => absurd z (by decide),fun _ => ⟨fun z => (by cases z),fun _ => ?_⟩⟩⟩
    refine ⟨rfl,p,P,S,ok,so,tw2.r,tw2.ru,fun w3 H3 s3 r3 => ?_⟩
    obtain ⟨D,rfl,hD⟩ := Aa.ofRow (r := draws P S) r3
    have s13 := s12.trans s3
    have tw3 := tw.sm s13
    refine ⟨D,_,(k : Int),.int ((draws P S).getD k 0),rfl,rfl,Ac.of hD,Bw (by omega),rfl,rfl,⟨fun z => absurd z (by rw [z0]; decide),fun _ => ?_⟩⟩
    obtain ⟨PA,PB,PE,PM,xb,xe,rfl,pA,pB,rb,pE,re,pM⟩ := Aa.plant tw3.r
    have lb := rb.len
    rw [List.length_map] at lb
    refine ⟨PA,_,0,.ref PB,rfl,rfl,Ac.of pA,rfl,PB,_,rfl,.inr (Ac.of pB),_,rfl,by omega,by omega,Cg (n := (xb.length : Int).toNat) (fun i σ H' => (∃ x6 x7,σ = [some (.ref PA),some u,some (.int (qs.getD k 0)),some (.int (k : Int)),some .non,some .non,x6,x7]) /\ Ab H3 H') ⟨⟨_,_,rfl⟩,Ab.refl _⟩ (fun i σ H' hi h => ?_) fun σ H' h => q _ (s13.trans h.2)⟩
    obtain ⟨⟨x6,x7,rfl⟩,s4⟩ := h
    have hi' : i < P.bs.length := by omega
    refine ⟨p,P,S,i,k,tw3.sm s4,by omega,hi',rfl,hk,fun d H5 d0 dl s5 => ?_⟩
    have s35 := s4.trans s5
    obtain ⟨b,hb⟩ : ∃ b,P.bs[i]? = some b := ⟨P.bs[i],List.getElem?_eq_getElem hi'⟩
    obtain ⟨y,hy,ry⟩ := rb.get (i := i) (d := bD b) (by rw [List.getElem?_map,hb]; rfl)
    obtain ⟨l,zs,rfl,hl',rz⟩ := Aa.shape (Aa.ev (f s35) _ _ ry)
    obtain ⟨y1,y2,rfl,r1,r2⟩ := Ad.two rz
    unfold Aa at r1 r2
    subst r1 r2
    have eb : (P.bs.map (·.2)).getD i 0 = b.2 := by rw [List.getD_eq_getElem?_getD,List.getElem?_map,hb]; rfl
    have dl' := dl c qs hf
    rw [eb] at dl'
    have ei : (0 : Int) + (i : Int) = (i : Int) := by omega
    refine ⟨fun z => absurd (of_decide_eq_true z) (by omega),fun _ => ?_⟩
    refine ⟨PA,_,0,.ref PB,rfl,rfl,Ac.of (s35 _ _ pA),rfl,PB,_,_,.ref l,rfl,rfl,Ac.of (s35 _ _ pB),by rw [ei]; exact B9 hy,l,_,1,.int b.2,rfl,rfl,Ac.of hl',rfl,_,_,rfl,⟨fun z => absurd (of_decide_eq_true z) ?_,fun _ => ⟨⟨_,_,rfl⟩,s35⟩⟩⟩
    split <;> omega
   ·have := le2 c qs hf
    refine ⟨rfl,⟨fun _ => ⟨fun z => absurd (of_decide_eq_true z) (by omega),fun _ => ?_⟩,fun z => absurd z (by rw [nn]; decide)⟩⟩
    refine ⟨rfl,p,P,S,ok,so,tw2.r,tw2.ru,fun w3 H3 s3 r3 => ?_⟩
    obtain ⟨D,rfl,hD⟩ := Aa.ofRow (r := draws P S) r3
    have s13 := s12.trans s3
    have tw3 := tw.sm s13
    refine ⟨D,_,(k : Int),.int ((draws P S).getD k 0),rfl,rfl,Ac.of hD,Bw (by omega),rfl,rfl,⟨fun z => absurd z (by rw [nn,decide_eq_false (p := V.int ((draws P S).getD k 0) = V.int 0) (fun z => z0 (by injection z))]; decide),fun _ => ?_⟩⟩
    obtain ⟨PA,PB,PE,PM,xb,xe,rfl,pA,pB,rb,pE,re,pM⟩ := Aa.plant tw3.r
    have lb := rb.len
    rw [List.length_map] at lb
    refine ⟨PA,_,0,.ref PB,rfl,rfl,Ac.of pA,rfl,PB,_,rfl,.inr (Ac.of pB),_,rfl,by omega,by omega,Cg (n := (xb.length : Int).toNat) (fun i σ H' => (∃ x6 x7,σ = [some (.ref PA),some u,some (.int (qs.getD k 0)),some (.int (k : Int)),some .non,some (.int d2),x6,x7]) /\ Ab H3 H') ⟨⟨_,_,rfl⟩,Ab.refl _⟩ (fun i σ H' hi h => ?_) fun σ H' h => q _ (s13.trans h.2)⟩
    obtain ⟨⟨x6,x7,rfl⟩,s4⟩ := h
    have hi' : i < P.bs.length := by omega
    refine ⟨p,P,S,i,k,tw3.sm s4,by omega,hi',rfl,hk,fun d H5 d0 dl s5 => ?_⟩
    have s35 := s4.trans s5
    obtain ⟨b,hb⟩ : ∃ b,P.bs[i]? = some b := ⟨P.bs[i],List.getElem?_eq_getElem hi'⟩
    obtain ⟨y,hy,ry⟩ := rb.get (i := i) (d := bD b) (by rw [List.getElem?_map,hb]; rfl)
    obtain ⟨l,zs,rfl,hl',rz⟩ := Aa.shape (Aa.ev (f s35) _ _ ry)
    obtain ⟨y1,y2,rfl,r1,r2⟩ := Ad.two rz
    unfold Aa at r1 r2
    subst r1 r2
    have eb : (P.bs.map (·.2)).getD i 0 = b.2 := by rw [List.getD_eq_getElem?_getD,List.getElem?_map,hb]; rfl
    have dl' := dl c qs hf
    rw [eb] at dl'
    have ei : (0 : Int) + (i : Int) = (i : Int) := by omega
    refine ⟨fun z => absurd (of_decide_eq_true z) (by omega),fun _ => ?_⟩
    refine ⟨PA,_,0,.ref PB,rfl,rfl,Ac.of (s35 _ _ pA),rfl,PB,_,_,.ref l,rfl,rfl,Ac.of (s35 _ _ pB),by rw [ei]; exact B9 hy,l,_,1,.int b.2,rfl,rfl,Ac.of hl',rfl,_,_,rfl,⟨fun z => absurd (of_decide_eq_true z) ?_,fun _ => ⟨⟨_,_,rfl⟩,s35⟩⟩⟩
    split <;> omega
  ·have := le1 c qs hf
   refine ⟨rfl,⟨fun _ => ⟨fun z => absurd (of_decide_eq_true z) (by omega),fun _ => ?_⟩,fun z => absurd z (by rw [nn]; decide)⟩⟩
   rcases hx2 with ⟨z0,rfl⟩ | ⟨z0,d2,rfl,le2⟩
   ·refine ⟨rfl,⟨fun z => absurd z (by decide),fun _ => ⟨fun z => (by cases z),fun _ => ?_⟩⟩⟩
    refine ⟨rfl,p,P,S,ok,so,tw2.r,tw2.ru,fun w3 H3 s3 r3 => ?_⟩
    obtain ⟨D,rfl,hD⟩ := Aa.ofRow (r := draws P S) r3
    have s13 := s12.trans s3
    have tw3 := tw.sm s13
    refine ⟨D,_,(k : Int),.int ((draws P S).getD k 0),rfl,rfl,Ac.of hD,Bw (by omega),rfl,rfl,⟨fun z => absurd z (by rw [z0]; decide),fun _ => ?_⟩⟩
    obtain ⟨PA,PB,PE,PM,xb,xe,rfl,pA,pB,rb,pE,re,pM⟩ := Aa.plant tw3.r
    have lb := rb.len
    rw [List.length_map] at lb
    refine ⟨PA,_,0,.ref PB,rfl,rfl,Ac.of pA,rfl,PB,_,rfl,.inr (Ac.of pB),_,rfl,by omega,by omega,Cg (n := (xb.length : Int).toNat) (fun i σ H' => (∃ x6 x7,σ = [some (.ref PA),some u,some (.int (qs.getD k 0)),some (.int (k : Int)),some (.int d1),some .non,x6,x7]) /\ Ab H3 H') ⟨⟨_,_,rfl⟩,Ab.refl _⟩ (fun i σ H' hi h => ?_) fun σ H' h => q _ (s13.trans h.2)⟩
    obtain ⟨⟨x6,x7,rfl⟩,s4⟩ := h
    have hi' : i < P.bs.length := by omega
    refine ⟨p,P,S,i,k,tw3.sm s4,by omega,hi',rfl,hk,fun d H5 d0 dl s5 => ?_⟩
    have s35 := s4.trans s5
    obtain ⟨b,hb⟩ : ∃ b,P.bs[i]? = some b := ⟨P.bs[i],List.getElem?_eq_getElem hi'⟩
    obtain ⟨y,hy,ry⟩ := rb.get (i := i) (d := bD b) (by rw [List.getElem?_map,hb]; rfl)
    obtain ⟨l,zs,rfl,hl',rz⟩ := Aa.shape (Aa.ev (f s35) _ _ ry)
    obtain ⟨y1,y2,rfl,r1,r2⟩ := Ad.two rz
    unfold Aa at r1 r2
    subst r1 r2
    have eb : (P.bs.map (·.2)).getD i 0 = b.2 := by rw [List.getD_eq_getElem?_getD,List.getElem?_map,hb]; rfl
    have dl' := dl c qs hf
    rw [eb] at dl'
    have ei : (0 : Int) + (i : Int) = (i : Int) := by omega
    refine ⟨fun z => absurd (of_decide_eq_true z) (by omega),fun _ => ?_⟩
    refine ⟨PA,_,0,.ref PB,rfl,rfl,Ac.of (s35 _ _ pA),rfl,PB,_,_,.ref l,rfl,rfl,Ac.of (s35 _ _ pB),by rw [ei]; exact B9 hy,l,_,1,.int b.2,rfl,rfl,Ac.of hl',rfl,_,_,rfl,⟨fun z => absurd (of_decide_eq_true z) ?_,fun _ => ⟨⟨_,_,rfl⟩,s35⟩⟩⟩
    split <;> omega
   ·have := le2 c qs hf
    refine ⟨rfl,⟨fun _ => ⟨fun z => absurd (of_decide_eq_true z) (by omega),fun _ => ?_⟩,fun z => absurd z (by rw [nn]; decide)⟩⟩
    refine ⟨rfl,p,P,S,ok,so,tw2.r,tw2.ru,fun w3 H3 s3 r3 => ?_⟩
    obtain ⟨D,rfl,hD⟩ := Aa.ofRow (r := draws P S) r3
    have s13 := s12.trans s3
    have tw3 := tw.sm s13
    refine ⟨D,_,(k : Int),.int ((draws P S).getD k 0),rfl,rfl,Ac.of hD,Bw (by omega),rfl,rfl,⟨fun z => absurd z (by rw [nn,decide_eq_false (p := V.int ((draws P S).getD k 0) = V.int 0) (fun z => z0 (by injection z))]; decide),fun _ => ?_⟩⟩
    obtain ⟨PA,PB,PE,PM,xb,xe,rfl,pA,pB,rb,pE,re,pM⟩ := Aa.plant tw3.r
    have lb := rb.len
    rw [List.length_map] at lb
    refine ⟨PA,_,0,.ref PB,rfl,rfl,Ac.of pA,rfl,PB,_,rfl,.inr (Ac.of pB),_,rfl,by omega,by omega,Cg (n := (xb.length : Int).toNat) (fun i σ H' => (∃ x6 x7,σ = [some (.ref PA),some u,some (.int (qs.getD k 0)),some (.int (k : Int)),some (.int d1),some (.int d2),x6,x7]) /\ Ab H3 H') ⟨⟨_,_,rfl⟩,Ab.refl _⟩ (fun i σ H' hi h => ?_) fun σ H' h => q _ (s13.trans h.2)⟩
    obtain ⟨⟨x6,x7,rfl⟩,s4⟩ := h
    have hi' : i < P.bs.length := by omega
    refine ⟨p,P,S,i,k,tw3.sm s4,by omega,hi',rfl,hk,fun d H5 d0 dl s5 => ?_⟩
    have s35 := s4.trans s5
    obtain ⟨b,hb⟩ : ∃ b,P.bs[i]? = some b := ⟨P.bs[i],List.getElem?_eq_getElem hi'⟩
    obtain ⟨y,hy,ry⟩ := rb.get (i := i) (d := bD b) (by rw [List.getElem?_map,hb]; rfl)
    obtain ⟨l,zs,rfl,hl',rz⟩ := Aa.shape (Aa.ev (f s35) _ _ ry)
    obtain ⟨y1,y2,rfl,r1,r2⟩ := Ad.two rz
    unfold Aa at r1 r2
    subst r1 r2
    have eb : (P.bs.map (·.2)).getD i 0 = b.2 := by rw [List.getD_eq_getElem?_getD,List.getElem?_map,hb]; rfl
    have dl' := dl c qs hf
    rw [eb] at dl'
    have ei : (0 : Int) + (i : Int) = (i : Int) := by omega
    refine ⟨fun z => absurd (of_decide_eq_true z) (by omega),fun _ => ?_⟩
    refine ⟨PA,_,0,.ref PB,rfl,rfl,Ac.of (s35 _ _ pA),rfl,PB,_,_,.ref l,rfl,rfl,Ac.of (s35 _ _ pB),by rw [ei]; exact B9 hy,l,_,1,.int b.2,rfl,rfl,Ac.of hl',rfl,_,_,rfl,⟨fun z => absurd (of_decide_eq_true z) ?_,fun _ => ⟨⟨_,_,rfl⟩,s35⟩⟩⟩
    split <;> omega
 ·exact h.elim
end
def sp_lawP (K : PySem.W.Frag) : Sp := fun vs H Q _ => match vs with | [.ref a] => ∃ ns : List Int,An K H a (ns.map V.int) /\ ns.length <= 63 /\ ∀ H',Q (.bl true) H' | _ => False
theorem RV {K vs H Q E} (h : sp_lawP K vs H Q E) : vs.length = 1 := by unfold sp_lawP at h; split at h; rfl; exact h.elim
theorem RW {n : Nat} : (List.replicate n true).all id = true := by
 rw [List.all_eq_true]; intro b hb; rw [(List.mem_replicate.mp hb).2]; rfl
section
variable {P : Program} {w : World} {K : PySem.W.Frag} {mg : Str -> Option Value} {base : Heap}
theorem sc_law : Av ["_law_script","_law_cell_here","_law_pen_here","_law_turn","_law_plant_here","_law_story_here","_law_word","_law_coal","_law_firing","_law_prices","_law_some"] ["_law_script"] (Ar s_law) := Ax
theorem RX {lf : Addr} {lfd : FuncData} (F : DC K "law" "law" s_law lf lfd) (T : Tx mg) (D__law_cell : Fn P w K mg base 1 "_law_cell" ["_law_script","_law_k"] (Ge K)) (D__law_hour_right : Fn P w K mg base 12 "_law_hour_right" ["_law_plant_here","_law_story_here","_law_price","_law_hour"] G1) (D__law_pair : Fn P w K mg base 3 "_law_pair" ["_law_pen_here","_law_most","_law_hours"] GP) (D__law_pen : Fn P w K mg base 1 "_law_pen" ["_law_cell_here"] Gf) (D_cheapest : Fn P w K mg base 11 "cheapest" ["plant","story"] GC) (D_fuller : Fn P w K mg base 11 "fuller" ["plant","story"] GZ) (D_least_coal : Fn P w K mg base 11 "least_coal" ["plant","story"] GR) (D_lower : Fn P w K mg base 11 "lower" ["plant","story"] GY) (D_prices_hold : Fn P w K mg base 16 "prices_hold" ["plant","story","firing","thing"] GT) (D_wider : Fn P w K mg base 11 "wider" ["plant","story"] GX) : Cy P w K mg base CX0 17 lf lfd ["_law_script"] (sp_lawP K) := by
 refine F.ok sc_law (fun vs H Q E h => ?_) (fun cdv A outer s H vs Q E hr h => ?_)
 ·exact RV h
 refine ⟨_,(Aj (BG PassesOwn.never rfl (EN K (Aq Oy (HI (Al (Ai D__law_cell (hr.mono (by decide)) rfl (Ap (cy 0) Ah)))) (CU (JI K) (cy 0) (B8 Ah) (B8 Ah)))) (Af 1 sc_law.nd) (Aj (AE (i := 2) sc_law.nd rfl (Aw (by rfl)) (Ai D__law_pen (hr.mono (by decide)) rfl (Al (cy 1)))) (Am (BG PassesOwn.never rfl (BN rfl T.b_range (Al Ah)) (Af 3 sc_law.nd) (Aj (AR (Ai D__law_pair (hr.mono (by decide)) rfl (AD (cy 2) Ah Ah)) (AC K (n := 2) (Ag (Af 4 sc_law.nd) (Ag (Af 5 sc_law.nd) AB)))) (Aj (AR (Ai D_cheapest (hr.mono (by decide)) rfl (Ap (cy 4) (cy 5))) (AC K (n := 4) (Ag (Af 6 sc_law.nd) (Ag (Af 7 sc_law.nd) (Ag (Af 8 sc_law.nd) (Ag (Af 9 sc_law.nd) AB)))))) (Aj (AU (PW.pt (EL (AN Fl (cy 6) Cr (AL _)) (EL (AN Fl (cy 7) (Ai D_least_coal (hr.mono (by decide)) rfl (Ap (cy 4) (cy 5))) (AL _)) (Ff (BM (BA (Ai D_prices_hold (hr.mono (by decide)) rfl (Bl (cy 4) (cy 5) (cy 8) (cy 9))))))))) (Am (As BY)) AT) (Aj (AU (BM (BA (AF (Dn rfl) rfl T.b_all boot_all (Al (A8 ["_law_hour","_law_price","_law_plant_here","_law_story_here"] [none,none,some 4,some 5] rfl (DL P w K rfl T.b_enumerate (Al (cy 9))) (AJ.of rfl) (fun _ _ _ _ => (AC K (n := 2) (Ag (Af 0 (AG (by rfl))) (Ag (Af 1 (AG (by rfl))) AB)))) (fun _ _ _ _ => AX) (fun _ _ _ _ => (Ai D__law_hour_right (hr.mono (by decide)) rfl (Bl (cy 2) (cy 3) (cy 1) (cy 0))))))))) (Am (As BY)) AT) (Aj (AE (i := 10) sc_law.nd rfl (Aw (by rfl)) (HI (AD (Ai D_wider (hr.mono (by decide)) rfl (Ap (cy 4) (cy 5))) (Ai D_lower (hr.mono (by decide)) rfl (Ap (cy 4) (cy 5))) (Ai D_fuller (hr.mono (by decide)) rfl (Ap (cy 4) (cy 5)))))) (Am (AU (AN (Oc hr.units0) (A8 ["_law_one"] [none] rfl (EN K (cy 10)) (AJ.of rfl) (fun _ _ _ _ => (Af 0 (AG (by rfl)))) (fun _ _ _ _ => (D3 (PW.pt (DI (AN Ez (cy 0) BE (AL _)) (DV (AN Cz (cy 0) Ah (AL _))))))) (fun _ _ _ _ => (cy 0))) (HI Ch) (AL _)) (Am (As BY)) AT))))))))))) (Am (As BY))),?_⟩
 unfold sp_lawP at h
 split at h
 ·rename_i a
  obtain ⟨ns,hS,hn63,q⟩ := h
  refine ⟨ns,hS,by decide,fun c0 l1 H01 s01 hl1 k01 => ?_⟩
  have hS1 : An K H01 a (ns.map V.int) := s01.seq hS
  refine ⟨1,rfl,2,rfl,a,_,rfl,hS1,fun l2 hl2 => ?_⟩
  have lc : (A7 (ns.map V.int) (some 1) (some 2)).length <= 63 := Nat.le_trans (Fr _ _ _) (by rw [List.length_map]; exact hn63)
  refine ⟨l1,l2,[.int c0],_,rfl,rfl,(Ab.new hl2) _ _ k01,Ak,PF (by rw [List.length_singleton]; omega),fun L H02 s02 hL kL => ?_⟩
  have allI : ∀ v ∈ [V.int c0] ++ A7 (ns.map V.int) (some 1) (some 2),∃ i,v = .int i := fun v hv => by
   rcases List.mem_append.mp hv with hv | hv
   ·exact ⟨c0,List.mem_singleton.mp hv⟩
   ·obtain ⟨i,_,e⟩ := List.mem_map.mp (PD hv); exact ⟨i,e.symm⟩
  generalize [V.int c0] ++ A7 (ns.map V.int) (some 1) (some 2) = xs at allI kL
  refine ⟨L,rfl,⟨xs,An.of kL⟩,LX (xs := xs) (fun i σ H' => (∃ x1 x2 x3 x4 x5 x6 x7 x8 x9 x10,σ = [some (.ref a),x1,x2,x3,x4,x5,x6,x7,x8,x9,x10]) /\ H' L = some (.lst xs)) ⟨⟨_,_,_,_,_,_,_,_,_,_,rfl⟩,kL⟩ (fun i σ H' _ h => An.of h.2) (fun i x σ H1 hx h => ?_) fun σ H1 h => q H1⟩
  obtain ⟨⟨x1,x2,x3,x4,x5,x6,x7,x8,x9,x10,rfl⟩,hL1⟩ := h
  obtain ⟨c,rfl⟩ := allI x (List.mem_of_getElem? hx)
  refine fun p l f hp => ?_
  have nLp : L ≠ p := A6 hL1 hp
  have np := Ab.new (o := .lst [.int l,.int f]) hp
  have pn2 : Bd p (upd H1 p (.lst [.int l,.int f])) := ⟨l,f,Ak⟩
  have hL2 := np _ _ hL1
  generalize upd H1 p (.lst [.int l,.int f]) = H2 at np pn2 hL2 ⊢
  refine ⟨2,rfl,by decide,by decide,Cg (n := 2) (fun i σ H' => (∃ x3 x4 x5 x6 x7 x8 x9 x10,σ = [some (.ref a),some (.int c),some (.ref p),x3,x4,x5,x6,x7,x8,x9,x10]) /\ H' L = some (.lst xs) /\ Bd p H') ⟨⟨_,_,_,_,_,_,_,_,rfl⟩,hL2,pn2⟩ (fun i0 σ H' hi h => ?_) fun σ H' h => ?_⟩
  ·obtain ⟨⟨x3,x4,x5,x6,x7,x8,x9,x10,rfl⟩,hL3,pn3⟩ := h
   refine ⟨pn3,by decide,by decide,by decide,by decide,fun t H3 P S v u ok so kp kt rv ru e3 pn4 => ⟨t,_,rfl,Ac.of kt,rfl,_,_,rfl,_,_,rfl,rfl,?_⟩⟩
   have fS := fun {H H' : Hp} (s : Ab H H') => Ev.same (p := p) s
   have hL4 := e3.lst hL3 nLp
   refine ⟨p,P,S,ok,so,rv,ru,fun x H4 d s4 pd rx => ?_⟩
   have no : Bc (terms P S) = none := (Pb ok so).mp kp
   rcases Rx ok so pd with ⟨s0,ls,rfl⟩ | ⟨ft,ct,ps,td,rfl⟩
   ·rw [no] at ls; cases ls
   obtain ⟨A',ys,rfl,hA,rs⟩ := Aa.shape rx
   obtain ⟨y1,y2,y3,y4,rfl,r1,r2,r3,r4⟩ := Ad.four rs
   unfold Aa at r1 r2
   subst r1 r2
   obtain ⟨W,rfl,hW⟩ := Aa.ofRow' r4
   have lps := td.len
   have x8' := so.x8
   refine ⟨A',_,rfl,Ac.of hA,rfl,_,_,rfl,_,_,rfl,_,_,rfl,_,_,rfl,rfl,?_⟩
   have e4 := fS s4
   have tw4 : Two p H4 P S v u := ⟨ok,so,Aa.ev e4 _ _ rv,Aa.ev e4 _ _ ru,no⟩
   refine ⟨rfl,⟨fun z => absurd z (by decide +kernel),fun _ => ?_⟩⟩
   refine ⟨p,P,S,ok,so,tw4.r,tw4.ru,fun n => absurd no n,fun _ g qs H5 hg s5 => ?_⟩
   have eg : g = ct := GQ hg td.top
   subst eg
   have tw5 := tw4.sm s5
   refine ⟨rfl,⟨fun z => absurd z (by simp),fun _ => ?_⟩⟩
   refine ⟨p,P,S,ft,_,ps,⟨ok,so,td.fo,tw5.r,tw5.ru,Aa.ev (fS s5) _ _ r3⟩,td.run,Aa.ev (fS s5) _ _ r4,td.len,td.pos,fun H6 s6 => ?_⟩
   rw [decide_eq_true td.fl]
   refine ⟨fun z => (by cases z),fun _ => ?_⟩
   have s46 := s5.trans s6
   have tw6 := tw4.sm s46
   have hW6 := s46 _ _ hW
   refine ⟨W,rfl,⟨_,Ac.of hW6⟩,walk_enum (xs := ps.map V.int) (fun i zs H' => Ab H6 H' /\ zs = List.replicate i (V.bl true)) (by rw [List.length_map]; omega) ⟨Ab.refl _,rfl⟩ (fun i zs H' h => by rw [h.2,List.length_replicate]; exact Nat.le_refl _) (fun i zs H' h => Ac.of (h.1 _ _ hW6)) (fun i y zs H' T' hy h hT => ?_) fun zs H7 h => ?_⟩
   ·obtain ⟨m,hm,rfl⟩ := Ih hy
    have hi' : i < ps.length := (List.getElem?_eq_some_iff.mp hm).1
    have em : m = ps.getD i 0 := by rw [List.getD_eq_getElem?_getD,hm]; rfl
    have nT := Ab.new (o := .tup [.int (i : Int),.int m]) hT
    refine ⟨T',_,rfl,Ac.of Ak,rfl,_,_,rfl,_,_,rfl,rfl,⟨rfl,rfl,trivial⟩,fun _ => ⟨p,P,S,i,g,ps,tw6.sm (h.1.trans nT),rfl,by omega,td.top,em,fun H8 s8 => ⟨h.1.trans (nT.trans s8),?_⟩⟩,fun z => (by cases z)⟩
    rw [h.2,List.replicate_succ']
   obtain ⟨s7,e7⟩ := h
   rw [List.length_map] at e7
   subst e7
   intro m hm
   have nm := Ab.new (o := .lst (List.replicate ps.length (V.bl true))) hm
   refine ⟨m,List.replicate ps.length true,rfl,by rw [Ak,List.map_replicate],?_⟩
   rw [RW]
   refine ⟨fun z => (by cases z),fun _ => ?_⟩
   have s67 := s7.trans nm
   generalize upd H7 m (.lst (List.replicate ps.length (V.bl true))) = H8 at nm s67 ⊢
   have tw8 := tw6.sm s67
   refine ⟨p,P,S,tw8,fun z1 J1 hz1 j1 => ⟨p,P,S,tw8.sm j1,fun z2 J2 hz2 j2 => ⟨p,P,S,(tw8.sm j1).sm j2,fun z3 J3 hz3 j3 => fun L9 J4 j4 hL9 kL9 => ?_⟩⟩⟩
   have all3 : ∀ z ∈ [z1,z2,z3],z = .non \/ ∃ d,z = .int d /\ 0 <= d := fun z hz => by
    simp only [List.mem_cons,List.not_mem_nil,or_false] at hz
    rcases hz with rfl | rfl | rfl
    ·exact hz1
    ·exact hz2
    ·exact hz3
   have eA : Ev p H3 J4 := fS (s4.trans (s46.trans (s67.trans (j1.trans (j2.trans (j3.trans j4))))))
   refine ⟨L9,rfl,⟨_,An.of kL9⟩,Fz (xs := [z1,z2,z3]) (fun i zs H' => Ab J4 H' /\ zs = []) (show 3 <= 100000 from by decide) ⟨Ab.refl _,rfl⟩ (fun i zs H' h => by rw [h.2]; exact Nat.zero_le _) (fun i zs H' _ h => An.of (h.1 _ _ kL9)) (fun i y zs H' hy h => ?_) fun zs H' h => ?_⟩
   ·refine ⟨trivial,?_⟩
    rcases all3 y (List.mem_of_getElem? hy) with rfl | ⟨d,rfl,d0⟩
    ·exact ⟨rfl,⟨fun z => absurd z (by decide),fun _ => ⟨fun z => (by cases z),fun _ => h⟩⟩⟩
    ·exact ⟨rfl,⟨fun _ => ⟨fun z => absurd (of_decide_eq_true z) (by omega),fun _ => h⟩,fun z => absurd z (by rw [decide_eq_false (p := V.int d = V.non) (fun z => by cases z)]; decide)⟩⟩
   intro La hLa
   obtain ⟨s9,rfl⟩ := h
   have na := Ab.new (o := .lst []) hLa
   have ka : upd H' La (.lst []) La = some (.lst []) := Ak
   generalize upd H' La (.lst []) = Ja at na ka ⊢
   refine fun Lb Jb jb hLb kLb => ⟨La,Lb,[],rfl,rfl,jb _ _ ka,kLb,⟨fun z => (by cases z),fun _ => ?_⟩⟩
   have eB : Ev p H3 Jb := eA.trans (fS (s9.trans (na.trans jb)))
   exact ⟨⟨_,_,_,_,_,_,_,_,rfl⟩,eB.lst hL4 nLp,pn4.same (s4.trans (s46.trans (s67.trans (j1.trans (j2.trans (j3.trans (j4.trans (s9.trans (na.trans jb)))))))))⟩
  ·obtain ⟨⟨x3,x4,x5,x6,x7,x8,x9,x10,rfl⟩,hL3,pn3⟩ := h
   exact ⟨⟨_,_,_,_,_,_,_,_,_,_,rfl⟩,hL3⟩
 ·exact h.elim
end
end MF
end
section
namespace MF
open PySem PySem.Spec PyProof.Rows L2
variable {h : Heap} {p0 p1 p2 : Str}
abbrev D4 (K : PySem.W.Frag) (x : Str) (st : Stmt) : Prop := ∃ (f : Addr) (oc : Value) (od an : Option Addr) (sl : Array (Option Value)) (kV dc pm cd ct : Value),PySem.W.nsIn K mainGlobals x = some (some (.ref f)) /\ K.lookup f = some ⟨oc,od,.func (PySem.W.fnOf x x (BZ st) (BI st) (Ar st) .none kV dc pm an cd ct),sl⟩ /\ PySem.W.codeIn K cd x = true /\ PySem.W.keepIn K (.ref f) = true
theorem d4_mk {K : PySem.W.Frag} {x : Str} {st : Stmt} {f : Addr} {oc : Value} {od an : Option Addr} {sl : Array (Option Value)} {kV dc pm cd ct : Value} (a : PySem.W.nsIn K mainGlobals x = some (some (.ref f))) (l : K.lookup f = some ⟨oc,od,.func (PySem.W.fnOf x x (BZ st) (BI st) (Ar st) .none kV dc pm an cd ct),sl⟩) (c : PySem.W.codeIn K cd x = true) (k : PySem.W.keepIn K (.ref f) = true) : D4 K x st := ⟨_,_,_,_,_,_,_,_,_,_,a,l,c,k⟩
theorem G2 {K : PySem.W.Frag} {mg : Str -> Option Value} {x : Str} {st : Stmt} {ps : List Str} (X : K.In h) (G : h.Ns mainGlobals mg) (d : D4 K x st)
  (hb : ∀ (kV doc pm : Value) (an : Option Addr) (cdv ct : Value) (us : List Value),us.length = ps.length -> bindArgs (PySem.W.fnOf x x (BZ st) (BI st) (Ar st) .none kV doc pm an cdv ct) ⟨us,[]⟩ = pure (ps.zip us)) : Df K mg x st ps := by
 obtain ⟨f,_,_,_,_,_,_,_,_,_,a,l,c,k⟩ := d
 exact ⟨f,_,Hj l c k,PySem.W.mg_of X G a,(Hj l c k).binds hb⟩
theorem B6 {K : PySem.W.Frag} {mg : Str -> Option Value} {x : Str} {st : Stmt} (X : K.In h) (G : h.Ns mainGlobals mg) (d : D4 K x st) (hb : ∀ (kV doc pm : Value) (an : Option Addr) (cdv ct a0 : Value),bindArgs (PySem.W.fnOf x x (BZ st) (BI st) (Ar st) .none kV doc pm an cdv ct) ⟨[a0],[]⟩ = pure ([p0].zip [a0]) := by intros; rfl) : Df K mg x st [p0] :=
 G2 X G d fun _ _ _ _ _ _ us hl => match us,hl with | [_],_ => hb _ _ _ _ _ _ _
theorem Bg {K : PySem.W.Frag} {mg : Str -> Option Value} {x : Str} {st : Stmt} (X : K.In h) (G : h.Ns mainGlobals mg) (d : D4 K x st) (hb : ∀ (kV doc pm : Value) (an : Option Addr) (cdv ct a0 a1 : Value),bindArgs (PySem.W.fnOf x x (BZ st) (BI st) (Ar st) .none kV doc pm an cdv ct) ⟨[a0,a1],[]⟩ = pure ([p0,p1].zip [a0,a1]) := by intros; rfl) : Df K mg x st [p0,p1] :=
 G2 X G d fun _ _ _ _ _ _ us hl => match us,hl with | [_,_],_ => hb _ _ _ _ _ _ _ _
theorem Bh {K : PySem.W.Frag} {mg : Str -> Option Value} {x : Str} {st : Stmt} (X : K.In h) (G : h.Ns mainGlobals mg) (d : D4 K x st) (hb : ∀ (kV doc pm : Value) (an : Option Addr) (cdv ct a0 a1 a2 : Value),bindArgs (PySem.W.fnOf x x (BZ st) (BI st) (Ar st) .none kV doc pm an cdv ct) ⟨[a0,a1,a2],[]⟩ = pure ([p0,p1,p2].zip [a0,a1,a2]) := by intros; rfl) : Df K mg x st [p0,p1,p2] :=
 G2 X G d fun _ _ _ _ _ _ us hl => match us,hl with | [_,_,_],_ => hb _ _ _ _ _ _ _ _ _
theorem Eu {K : PySem.W.Frag} {mg : Str -> Option Value} {x : Str} {st : Stmt} {p3 : Str} (X : K.In h) (G : h.Ns mainGlobals mg) (d : D4 K x st) (hb : ∀ (kV doc pm : Value) (an : Option Addr) (cdv ct a0 a1 a2 a3 : Value),bindArgs (PySem.W.fnOf x x (BZ st) (BI st) (Ar st) .none kV doc pm an cdv ct) ⟨[a0,a1,a2,a3],[]⟩ = pure ([p0,p1,p2,p3].zip [a0,a1,a2,a3]) := by intros; rfl) : Df K mg x st [p0,p1,p2,p3] :=
 G2 X G d fun _ _ _ _ _ _ us hl => match us,hl with | [_,_,_,_],_ => hb _ _ _ _ _ _ _ _ _ _
abbrev RY (x : Str) (st : Stmt) (kV dc pm : Value) (an : Option Addr) (cd ct : Value) : FuncData := PySem.W.fnOf x x (BZ st) (BI st) (Ar st) .none kV dc pm an cd ct
open PySem.W in
theorem all_mk {l : OpenLaw} {w : World} {K : Frag} {mg : Str -> Option Value} {fa : Addr} (X : K.In h) (G : h.Ns mainGlobals mg) (hfa : mg "law" = some (.ref fa))
  {f : Addr} {od an : Option Addr} {sl : Array (Option Value)} {oc kV dc pm cd ct : Value}
  (a0 : D4 K "_law_cell" s__law_cell)
  (a1 : D4 K "replaced" s_replaced)
  (a2 : D4 K "added" s_added)
  (a3 : D4 K "floor_at" s_floor_at)
  (a4 : D4 K "tails_from" s_tails_from)
  (a5 : D4 K "highest_floor" s_highest_floor)
  (a6 : D4 K "is_too_much" s_is_too_much)
  (a7 : D4 K "least_stretch" s_least_stretch)
  (a8 : D4 K "coal_under" s_coal_under)
  (a9 : D4 K "coal_or_refuse" s_coal_or_refuse)
  (a10 : D4 K "is_whole" s_is_whole)
  (a11 : D4 K "is_whole_from" s_is_whole_from)
  (a12 : D4 K "need_boiler" s_need_boiler)
  (a13 : D4 K "need_hour" s_need_hour)
  (a14 : D4 K "cap_under" s_cap_under)
  (a15 : D4 K "words_for" s_words_for)
  (a16 : D4 K "caps_in" s_caps_in)
  (a17 : D4 K "is_tuple_of" s_is_tuple_of)
  (a18 : D4 K "is_fault" s_is_fault)
  (a19 : D4 K "is_make_and_coal" s_is_make_and_coal)
  (a20 : D4 K "are_boilers" s_are_boilers)
  (a21 : D4 K "is_engine" s_is_engine)
  (a22 : D4 K "are_engines" s_are_engines)
  (a23 : D4 K "is_main" s_is_main)
  (a24 : D4 K "is_plant" s_is_plant)
  (a25 : D4 K "need_plant" s_need_plant)
  (a26 : D4 K "is_story" s_is_story)
  (a27 : D4 K "need_story" s_need_story)
  (a28 : D4 K "caps_of" s_caps_of)
  (a29 : D4 K "drawn_by" s_drawn_by)
  (a30 : D4 K "draws_of" s_draws_of)
  (a31 : D4 K "terms_of" s_terms_of)
  (a32 : D4 K "better" s_better)
  (a33 : D4 K "less_drawn" s_less_drawn)
  (a34 : D4 K "more_drawn" s_more_drawn)
  (a35 : D4 K "_law_hour_right" s__law_hour_right)
  (a36 : D4 K "_law_caps" s__law_caps)
  (a37 : D4 K "_law_draws" s__law_draws)
  (a38 : D4 K "_law_mains" s__law_mains)
  (a39 : D4 K "_law_keeps" s__law_keeps)
  (a40 : D4 K "_law_draw" s__law_draw)
  (a41 : D4 K "_law_plant" s__law_plant)
  (a42 : D4 K "_law_story" s__law_story)
  (a43 : D4 K "_law_pair" s__law_pair)
  (a44 : D4 K "_law_pen" s__law_pen)
  (a45 : D4 K "room_between" s_room_between)
  (a46 : D4 K "make_cheapest" s_make_cheapest)
  (a47 : D4 K "least_firing" s_least_firing)
  (a48 : D4 K "cheapest" s_cheapest)
  (a49 : D4 K "fuller" s_fuller)
  (a50 : D4 K "least_coal" s_least_coal)
  (a51 : D4 K "lower" s_lower)
  (a52 : D4 K "is_row" s_is_row)
  (a53 : D4 K "is_firing_within" s_is_firing_within)
  (a54 : D4 K "is_firing" s_is_firing)
  (a55 : D4 K "need_firing" s_need_firing)
  (a56 : D4 K "steam_by" s_steam_by)
  (a57 : D4 K "coal_of" s_coal_of)
  (a58 : D4 K "is_counts" s_is_counts)
  (a59 : D4 K "floor_of" s_floor_of)
  (a60 : D4 K "run_day" s_run_day)
  (a61 : D4 K "falls_at" s_falls_at)
  (a62 : D4 K "keeps_up" s_keeps_up)
  (a63 : D4 K "need_keeping" s_need_keeping)
  (a64 : D4 K "prices_hold" s_prices_hold)
  (a65 : D4 K "wider" s_wider)
  (a : nsIn K mainGlobals "law" = some (some (.ref f))) (l0 : K.lookup f = some ⟨oc,od,.func (RY "law" s_law kV dc pm an cd ct),sl⟩) (c : codeIn K cd "law" = true) (k : keepIn K (.ref f) = true)
  (z0 : nsIn K mainGlobals "all" = some none)
  (z1 : nsIn K mainGlobals "bool" = some none)
  (z2 : nsIn K mainGlobals "divmod" = some none)
  (z3 : nsIn K mainGlobals "enumerate" = some none)
  (z4 : nsIn K mainGlobals "int" = some none)
  (z5 : nsIn K mainGlobals "isinstance" = some none)
  (z6 : nsIn K mainGlobals "len" = some none)
  (z7 : nsIn K mainGlobals "list" = some none)
  (z8 : nsIn K mainGlobals "max" = some none)
  (z9 : nsIn K mainGlobals "min" = some none)
  (z10 : nsIn K mainGlobals "range" = some none)
  (z11 : nsIn K mainGlobals "reversed" = some none)
  (z12 : nsIn K mainGlobals "sum" = some none)
  (z13 : nsIn K mainGlobals "tuple" = some none)
  (z14 : nsIn K mainGlobals "zip" = some none)
  {t0 : Tok} (q0 : nsIn K mainGlobals "MOST_BOILERS" = some (some (.int 4 t0)))
  {t1 : Tok} (q1 : nsIn K mainGlobals "MOST_ENGINES" = some (some (.int 4 t1)))
  {t2 : Tok} (q2 : nsIn K mainGlobals "MOST_FAULTS" = some (some (.int 4 t2)))
  {t3 : Tok} (q3 : nsIn K mainGlobals "MOST_HOURS" = some (some (.int 8 t3)))
  {t4 : Tok} (q4 : nsIn K mainGlobals "MOST_UNITS" = some (some (.int 9 t4)))
  {t5 : Tok} (q5 : nsIn K mainGlobals "MOST_EXTRA" = some (some (.int 20 t5)))
  {t6 : Tok} (q6 : nsIn K mainGlobals "MOST_IN_MAIN" = some (some (.int 40 t6)))
  : ∃ fd : FuncData,(∀ (s : Shared) (v : Value),BindsTo s fd ⟨[v],[]⟩ [("_law_script",v)]) /\ ∀ base : Heap,K.In base -> base.Ns mainGlobals mg -> Cy l.prog w K mg base CX0 17 fa fd ["_law_script"] (sp_lawP K) := by
 have e := hfa.symm.trans (PySem.W.mg_of X G a)
 cases e
 have T : Tx mg := ⟨mg_none_of X G z0,mg_none_of X G z1,mg_none_of X G z2,mg_none_of X G z3,mg_none_of X G z4,mg_none_of X G z5,mg_none_of X G z6,mg_none_of X G z7,mg_none_of X G z8,mg_none_of X G z9,mg_none_of X G z10,mg_none_of X G z11,mg_none_of X G z12,mg_none_of X G z13,mg_none_of X G z14,⟨_,mg_of X G q0⟩,⟨_,mg_of X G q1⟩,⟨_,mg_of X G q2⟩,⟨_,mg_of X G q3⟩,⟨_,mg_of X G q4⟩,⟨_,mg_of X G q5⟩,⟨_,mg_of X G q6⟩⟩
 have F := Hj (st := s_law) l0 c k
 refine ⟨PySem.W.fnOf "law" "law" (BZ s_law) (BI s_law) (Ar s_law) .none kV dc pm an cd ct,fun s v => .of_eq rfl,fun base _ _ => ?_⟩
 have B__law_cell := Qi (P := l.prog) (w := w) (base := base) (Bg X G a0) T
 have B_replaced := QR (P := l.prog) (w := w) (base := base) (Bh X G a1) T
 have B_added := QU (Bh X G a2) T B_replaced
 have B_floor_at := QJ (P := l.prog) (w := w) (base := base) (Eu X G a3) T
 have B_tails_from := QL (Bh X G a4) T B_floor_at
 have B_highest_floor := QM (B6 X G a5) T B_tails_from
 have B_is_too_much := QO (P := l.prog) (w := w) (base := base) (Bg X G a6) T
 have B_least_stretch := QP (B6 X G a7) T B_is_too_much
 have B_coal_under := QS (B6 X G a8) T B_highest_floor B_least_stretch
 have B_coal_or_refuse := RN (B6 X G a9) T B_coal_under
 have B_is_whole := PY (P := l.prog) (w := w) (base := base) (B6 X G a10) T
 have B_is_whole_from := P0 (Bh X G a11) T B_is_whole
 have B_need_boiler := RM (Bg X G a12) T B_is_whole_from
 have B_need_hour := RK (Bg X G a13) T B_is_whole_from
 have B_cap_under := Qu (P := l.prog) (w := w) (base := base) (Bg X G a14) T
 have B_words_for := Qw (P := l.prog) (w := w) (base := base) (Bh X G a15) T
 have B_caps_in := Qy (Bh X G a16) T B_cap_under B_words_for
 have B_is_tuple_of := P2 (P := l.prog) (w := w) (base := base) (Bh X G a17) T
 have B_is_fault := Qp (Bh X G a18) T B_is_tuple_of B_is_whole_from
 have B_is_make_and_coal := P9 (B6 X G a19) T B_is_tuple_of B_is_whole_from
 have B_are_boilers := Qd (B6 X G a20) T B_is_make_and_coal B_is_tuple_of
 have B_is_engine := Qa (B6 X G a21) T B_is_tuple_of B_is_whole_from
 have B_are_engines := Qf (B6 X G a22) T B_is_engine B_is_tuple_of
 have B_is_main := Qb (B6 X G a23) T B_is_tuple_of B_is_whole_from
 have B_is_plant := Qg (B6 X G a24) T B_are_boilers B_are_engines B_is_main B_is_tuple_of
 have B_need_plant := Qo (B6 X G a25) T B_is_plant
 have B_is_story := Qq (Bg X G a26) T B_is_fault B_is_tuple_of B_is_whole_from B_need_plant
 have B_need_story := Qs (Bg X G a27) T B_is_story
 have B_caps_of := Qz (Bg X G a28) T B_caps_in B_need_story
 have B_drawn_by := QA (P := l.prog) (w := w) (base := base) (Bg X G a29) T
 have B_draws_of := QB (Bg X G a30) T B_drawn_by B_need_story
 have B_terms_of := QG (Bg X G a31) T B_caps_of B_draws_of
 have B_better := RT (Eu X G a32) T B_added B_coal_or_refuse B_coal_under B_need_boiler B_need_hour B_replaced B_terms_of
 have B_less_drawn := RP (Bh X G a33) T B_added B_coal_or_refuse B_coal_under B_need_hour B_terms_of
 have B_more_drawn := RO (Bh X G a34) T B_added B_coal_or_refuse B_coal_under B_need_hour B_terms_of
 have B__law_hour_right := RU (Eu X G a35) T B_better B_draws_of B_less_drawn B_more_drawn
 have B__law_caps := QE (P := l.prog) (w := w) (base := base) (Bg X G a36) T
 have B__law_draws := Rp (P := l.prog) (w := w) (base := base) (Bg X G a37) T
 have B__law_mains := Rq (P := l.prog) (w := w) (base := base) (Bh X G a38) T
 have B__law_keeps := Rs (Bh X G a39) T B__law_draws B__law_mains
 have B__law_draw := Qk (P := l.prog) (w := w) (base := base) (Bg X G a40) T
 have B__law_plant := Ql (Bg X G a41) T B__law_draw
 have B__law_story := QD (Bh X G a42) T B__law_draw
 have B__law_pair := Rt (Bh X G a43) T B__law_caps B__law_keeps B__law_plant B__law_story
 have B__law_pen := Qj (P := l.prog) (w := w) (base := base) (B6 X G a44) T
 have B_room_between := Q0 (P := l.prog) (w := w) (base := base) (Eu X G a45) T
 have B_make_cheapest := Q1 (Eu X G a46) T B_room_between
 have B_least_firing := Q2 (B6 X G a47) T B_make_cheapest
 have B_cheapest := Q3 (Bg X G a48) T B_highest_floor B_least_firing B_least_stretch B_terms_of
 have B_fuller := RS (Bg X G a49) T B_coal_or_refuse B_coal_under B_terms_of
 have B_least_coal := RE (Bg X G a50) T B_coal_under B_terms_of
 have B_lower := RR (Bg X G a51) T B_coal_or_refuse B_coal_under B_terms_of
 have B_is_row := Q6 (Bg X G a52) T B_is_tuple_of B_is_whole_from
 have B_is_firing_within := Q8 (Bg X G a53) T B_is_row B_is_tuple_of
 have B_is_firing := Ra (Bh X G a54) T B_caps_of B_is_firing_within
 have B_need_firing := Rc (Bh X G a55) T B_is_firing
 have B_steam_by := Rj (Bh X G a56) T B_need_firing
 have B_coal_of := Rl (Bh X G a57) T B_steam_by
 have B_is_counts := QI (Bg X G a58) T B_is_tuple_of B_is_whole
 have B_floor_of := QK (Bh X G a59) T B_floor_at B_is_counts B_terms_of
 have B_run_day := Re (Bh X G a60) T B_draws_of B_need_firing
 have B_falls_at := Rf (Bh X G a61) T B_run_day
 have B_keeps_up := Rh (Bh X G a62) T B_falls_at
 have B_need_keeping := RG (Bh X G a63) T B_keeps_up
 have B_prices_hold := RI (Eu X G a64) T B_coal_of B_floor_of B_is_counts B_need_keeping
 have B_wider := RQ (Bg X G a65) T B_coal_or_refuse B_coal_under B_terms_of
 exact RX F T B__law_cell B__law_hour_right B__law_pair B__law_pen B_cheapest B_fuller B_least_coal B_lower B_prices_hold B_wider
end MF
namespace PySem.W.Fast
def tw10088185565211005307:=0
def tw10104885456708744983:=0
def tw10225731458467967989:=0
def tw10332001398482105542:=0
def tw10483788899234148657:=0
def tw1053668522261593528:=0
def tw10549690958725277299:=0
def tw10613830798057158619:=0
def tw10817013597260841772:=0
def tw11214768793721348919:=0
def tw11217243391671358663:=0
def tw11488963517746860146:=0
def tw11593780835516450446:=0
def tw11623296914685274910:=0
def tw11753206037623128000:=0
def tw11783539319621790655:=0
def tw11819849698941557581:=0
def tw12162385375346528227:=0
def tw12185611107709886911:=0
def tw12368440698653711922:=0
def tw12603061088123160119:=0
def tw1270550683954517652:=0
def tw13056642133085440377:=0
def tw13118064747029320519:=0
def tw13581838788494040011:=0
def tw13587026507555687564:=0
def tw1364082460323276152:=0
def tw13758500415059262036:=0
def tw13782621392784967696:=0
def tw13808838033045742143:=0
def tw13843579262367797790:=0
def tw14086013481565852506:=0
def tw14236066943775762102:=0
def tw14409646255482055618:=0
def tw14415751064205912857:=0
def tw14518881944698187263:=0
def tw14549255899211467130:=0
def tw14592693348929492330:=0
def tw14596089220308078131:=0
def tw14722054114451220051:=0
def tw14790386985655063934:=0
def tw14936900562297127978:=0
def tw15027748487709078883:=0
def tw15212041970175905747:=0
def tw15361437958209134941:=0
def tw15374791206456565291:=0
def tw15478702060007806368:=0
def tw15495335271763559923:=0
def tw15650307853142469398:=0
def tw15779855387892880707:=0
def tw15796014401399808440:=0
def tw15920491823899049593:=0
def tw15939767182486588037:=0
def tw16009455627477338336:=0
def tw16038276783752803153:=0
def tw16224238382411991470:=0
def tw16333000091865152393:=0
def tw16547579217109029995:=0
def tw16688377378655192690:=0
def tw16690044977650447649:=0
def tw17066151307708599318:=0
def tw17318011073694688831:=0
def tw17631284668580608682:=0
def tw17650941728743001032:=0
def tw17739085735346753093:=0
def tw18079228527134028388:=0
def tw18141824232223774163:=0
def tw18180415793532300894:=0
def tw18225909550750994561:=0
def tw1827650657848289384:=0
def tw1941415687121571948:=0
def tw2071798571502022648:=0
def tw2086822933349440150:=0
def tw2167312458237759316:=0
def tw2262537346426789075:=0
def tw227460999695957198:=0
def tw236089139542284533:=0
def tw2366890000281991679:=0
def tw2587926942877296633:=0
def tw2804077690408003350:=0
def tw2900406755890314496:=0
def tw2948769725100652666:=0
def tw2956753147134745399:=0
def tw3025286501663502520:=0
def tw3136730615928272889:=0
def tw3563744997267380782:=0
def tw3713779031675051911:=0
def tw373732561313600642:=0
def tw3784229269836919630:=0
def tw3825801727864822708:=0
def tw3845790739911897704:=0
def tw4041363844489964351:=0
def tw4048226214162070432:=0
def tw4174986417911730550:=0
def tw4204388334819048587:=0
def tw4213925715497378341:=0
def tw4236415763645341834:=0
def tw4349256722364791886:=0
def tw4392897094872952557:=0
def tw4394707447290202793:=0
def tw4411182766004102769:=0
def tw4482796788447675152:=0
def tw4573705674828578510:=0
def tw4591853052137325535:=0
def tw4717679862759811223:=0
def tw4752577291162682399:=0
def tw4895745694328595029:=0
def tw5080288367121054326:=0
def tw5248337748439412748:=0
def tw52593298413585625:=0
def tw5666453975259037031:=0
def tw5682793141215351917:=0
def tw5697709437996228053:=0
def tw5843123353134535244:=0
def tw5844140724482395144:=0
def tw6134565101295702050:=0
def tw6225880814080154175:=0
def tw6253312999657700632:=0
def tw6269587639740871263:=0
def tw6397410305738904932:=0
def tw6546344304259901444:=0
def tw657976809058176286:=0
def tw678892198182555284:=0
def tw6835354246991723378:=0
def tw6839880235080670521:=0
def tw6877641930162298532:=0
def tw6916006912540582356:=0
def tw6929810833506720382:=0
def tw6964459831147159068:=0
def tw6973849880450945567:=0
def tw7289857848690355006:=0
def tw7338848160159705998:=0
def tw7405674897006313587:=0
def tw7466576776690757451:=0
def tw7471288849075353903:=0
def tw7826759571280778116:=0
def tw7831748828489993492:=0
def tw7926350941066081063:=0
def tw7926624869174434378:=0
def tw7927560628048916407:=0
def tw7963046328960739765:=0
def tw8103248056267697972:=0
def tw8509252800910139581:=0
def tw8626693283283019383:=0
def tw8766059322365464987:=0
def tw8960173905154018313:=0
def tw9017319373411562884:=0
def tw9058343107608235084:=0
def tw9068970739936207815:=0
def tw9276443989765485368:=0
def tw9301897307388935400:=0
def tw9451753999149867455:=0
def tw9540567202755055656:=0
def tw9609145156389105255:=0
def tw9658930451459358733:=0
def tw9666649248617156450:=0
def tw967050299159722844:=0
def tw9671496415224756944:=0
def tw9957130315540796345:=0
end PySem.W.Fast
open PySem PySem.W PyProof.Rows
set_option maxRecDepth 100000 in
set_option maxHeartbeats 0 in
theorem PySem.Challenge.cw_mainfires_k54_whole_prices_and_units_holds : PySem.Challenge.rw_mainfires_k54_whole_prices_and_units.Holds := by
 w_on; o_law; k_head; (case hw => w_witness2)
 k_fill
 refine L2.walk_ofK (l := PySem.Challenge.rw_mainfires_k54_whole_prices_and_units) (n := 63) (k := 17) (x := "_law_script") (CX := L2.CX0) (sp := MF.sp_lawP) rfl (by decide) rfl ⟨rfl, by decide, by decide, rfl⟩ (fun w h Y => PySem.W.kIn_of Y) ?F (fun _ _ a ns hl _ hS => ⟨ns, hS, hl, fun _ => rfl⟩) (fun _ _ _ _ z => z)
 case F =>
  intro w mg fa h KX G hmg
  refine' MF.all_mk KX G hmg ?_ ?_ ?_ ?_ ?_ ?_ ?_ ?_ ?_ ?_ ?_ ?_ ?_ ?_ ?_ ?_ ?_ ?_ ?_ ?_ ?_ ?_ ?_ ?_ ?_ ?_ ?_ ?_ ?_ ?_ ?_ ?_ ?_ ?_ ?_ ?_ ?_ ?_ ?_ ?_ ?_ ?_ ?_ ?_ ?_ ?_ ?_ ?_ ?_ ?_ ?_ ?_ ?_ ?_ ?_ ?_ ?_ ?_ ?_ ?_ ?_ ?_ ?_ ?_ ?_ ?_ ?_ ?_ ?_ ?_ ?_ ?_ ?_ ?_ ?_ ?_ ?_ ?_ ?_ ?_ ?_ ?_ ?_ ?_ ?_ ?_ ?_ ?_ ?_ ?_ ?_ ?_
  all_goals first | refine' MF.d4_mk ?_ ?_ ?_ ?_ | skip
  any_goals k_is
end
