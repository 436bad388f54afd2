import PyProof.Rows.All
import Wide.All
import OpenK.AllK
import Wide.FinOn
import Lean
import PyProof.EqAt
import PyProof.EqKinds
import PyProof.TupleCall
import PyProof.Draws
import PyProof.ZipIter
import PyProof.EnumMake
import PyProof.IsiPairs
import PyProof.IsiHeapPairs
import PyProof.IsiNone
import PyProof.ReprRoads
import PyProof.ConsumeWalk
import PyProof.NeKinds
import PyProof.Rows.SeqMore
import PyProof.Rows.SortWalk
import PyProof.Rows.StrJoinMade
import PyProof.P3Eq
import PyProof.ListRange
import PyProof.CollectIter
import KE.KTryDeep
import PyProof.ExcBaseAll.ValueError
import PyProof.ExcArgsOwn
import PyProof.ExcAttrAll.ValueError
import KE.KLam
import PyProof.DictItemsLoops
import PyProof.DictCompW
import KE.KRevIter
import PyProof.MinMaxWalk
import PyProof.Rows.RowHeap
import PyProof.MaxThree
import PyProof.Rows.CallKwBuiltin
import KE.KTupTruth
import PyProof.TupleOfGen
import PySem.Challenge.RW_mainfires_k58_whole_fewest_and_alone
set_option Elab.async false
set_option linter.all false
set_option maxRecDepth 100000
set_option maxHeartbeats 4000000
section
namespace L2
open PySem PySem.Spec PyProof.Rows
abbrev AT := Sum Int Str
def Dv : AT -> Value -> Bool
 | .inl k,v => Value.isInt k v
 | .inr x,v => Value.isStrOf x v
def Lg (w : World) : AT -> Int
 | .inl k => hashInt k
 | .inr x => hashStr w x
theorem CB : ∀ {k : AT} {v : Value},Dv k v = true -> (∃ i t,k = Sum.inl i /\ v = Value.int i t) \/ (∃ x t,k = Sum.inr x /\ v = Value.str x t)
 | .inl i,v,h => by
  obtain ⟨t,e⟩ := Value.isInt_shape (k := i) (v := v) h
  exact .inl ⟨i,t,rfl,e⟩
 | .inr x,v,h => by
  obtain ⟨t,e⟩ := Value.isStrOf_shape (x := x) (v := v) h
  exact .inr ⟨x,t,rfl,e⟩
theorem Lh (i : Int) (t : Tok) : Dv (.inl i) (.int i t) = true := by simp [Dv,Value.isInt]
theorem Li (x : Str) (t : Tok) : Dv (.inr x) (.str x t) = true := by simp [Dv,Value.isStrOf]
theorem Lj (a b : Int) : decide ((Sum.inl a : AT) = Sum.inl b) = (a == b) := by
 by_cases e : a = b
 ·subst e; simp
 ·have h : ¬ (Sum.inl a : AT) = Sum.inl b := fun q => e (Sum.inl.inj q)
  rw [decide_eq_false h]
  exact (beq_eq_false_iff_ne.mpr e).symm
theorem Lk (a b : Str) : decide ((Sum.inr a : AT) = Sum.inr b) = decide (a = b) := by
 by_cases e : a = b
 ·subst e; simp
 ·have h : ¬ (Sum.inr a : AT) = Sum.inr b := fun q => e (Sum.inr.inj q)
  rw [decide_eq_false h,decide_eq_false e]
theorem Ll (a : Int) (b : Str) : decide ((Sum.inl a : AT) = Sum.inr b) = false := decide_eq_false (fun q => nomatch q)
theorem Lm (a : Str) (b : Int) : decide ((Sum.inr a : AT) = Sum.inl b) = false := decide_eq_false (fun q => nomatch q)
def Br (prog : Program) (w : World) : PySem.KeyKind prog w AT where
 is := Dv
 hash := Lg w
 inj := fun v a b ha hb => by
  rcases CB ha with ⟨i,t,rfl,rfl⟩ | ⟨x,t,rfl,rfl⟩
  ·rcases CB hb with ⟨j,u,rfl,e⟩ | ⟨y,u,rfl,e⟩
   ·injection e with e1 _; rw [e1]
   ·exact nomatch e
  ·rcases CB hb with ⟨j,u,rfl,e⟩ | ⟨y,u,rfl,e⟩
   ·exact nomatch e
   ·injection e with e1 _; rw [e1]
 byValue := fun k v h => by
  rcases CB h with ⟨i,t,rfl,rfl⟩ | ⟨x,t,rfl,rfl⟩ <;> rfl
 pyHash := fun hv h => by
  rcases CB hv with ⟨i,t,rfl,rfl⟩ | ⟨x,t,rfl,rfl⟩
  ·exact wpAny_pyHash_int h
  ·exact wpAny_pyHash_str h
 eqBool := fun hu hv h => by
  rcases CB hu with ⟨i,t,rfl,rfl⟩ | ⟨x,t,rfl,rfl⟩
  ·rcases CB hv with ⟨j,u,rfl,rfl⟩ | ⟨y,u,rfl,rfl⟩
   ·rw [Lj] at h; exact wpAny_eqBool_int h
   ·rw [Ll] at h; exact SeqAt.EqAt.int_str i t y u _ _ _ _ h
  ·rcases CB hv with ⟨j,u,rfl,rfl⟩ | ⟨y,u,rfl,rfl⟩
   ·rw [Lm] at h; exact SeqAt.EqAt.str_int x t j u _ _ _ _ h
   ·rw [Lk] at h; exact wpAny_eqBool_str h
 «strs» := fun k x t v h => by
  rcases CB h with ⟨i,u,rfl,e⟩ | ⟨y,u,rfl,e⟩
  ·exact nomatch e
  ·injection e with e1 _
   subst e1
   cases v <;> rfl
theorem Ln (prog : Program) (w : World) (k : AT) (v : Value) : (Br prog w).is k v = Dv k v := rfl
theorem Ip (prog : Program) (w : World) (i : Int) (t : Tok) : (Br prog w).is (.inl i) (.int i t) = true := Lh i t
theorem Lo (prog : Program) (w : World) (x : Str) (t : Tok) : (Br prog w).is (.inr x) (.str x t) = true := Li x t
end L2
namespace L2
open PySem PySem.Spec PyProof.Rows
inductive V where
 | non | bl (b : Bool) | int (i : Int) | str (x : Str) | byt (b : Array UInt8) | flt (b : UInt64) | ref (a : Addr) | ty (n : String)
 deriving DecidableEq
def Ay : V -> Value -> Prop
 | .non,u => u = Value.none
 | .bl b,u => u = Value.bool b
 | .int i,u => ∃ t,u = Value.int i t
 | .str x,u => ∃ t,u = Value.str x t
 | .byt b,u => ∃ t,u = Value.bytes b t
 | .flt b,u => ∃ t,u = Value.float b t
 | .ref a,u => u = Value.ref a
 | .ty n,u => u = Value.type n
abbrev Ar : List V -> List Value -> Prop := Paired Ay
theorem Ar.length {xs : List V} {us : List Value} (r : Ar xs us) : xs.length = us.length := Paired.length r
theorem Ar.get : ∀ {xs : List V} {us : List Value} {i : Nat} {x : V},Ar xs us -> xs[i]? = some x -> ∃ u,us[i]? = some u /\ Ay x u
 | _,_,_,_,.nil,e => by simp at e
 | _,_,0,_,.cons r _,e => by simp at e; subst e; exact ⟨_,rfl,r⟩
 | _,_,i + 1,x,.cons _ t,e => by
  obtain ⟨u,h1,h2⟩ := Ar.get (i := i) (x := x) t (by simpa using e)
  exact ⟨u,by simpa using h1,h2⟩
theorem Ar.set {x : V} {u : Value} (r : Ay x u) : ∀ {xs : List V} {us : List Value} (i : Nat),Ar xs us -> Ar (xs.set i x) (us.set i u)
 | _,_,_,.nil => .nil
 | _,_,0,.cons _ t => .cons r t
 | _,_,i + 1,.cons q t => .cons q (Ar.set r i t)
theorem Ar.append : ∀ {xs ys : List V} {us ws : List Value},Ar xs us -> Ar ys ws -> Ar (xs ++ ys) (us ++ ws)
 | _,_,_,_,.nil,s => s
 | _,_,_,_,.cons r t,s => .cons r (Ar.append t s)
theorem Ar.take : ∀ {xs : List V} {us : List Value} (n : Nat),Ar xs us -> Ar (xs.take n) (us.take n)
 | _,_,0,_ => .nil
 | _,_,_ + 1,.nil => .nil
 | _,_,n + 1,.cons r t => .cons r (Ar.take n t)
theorem Ar.drop : ∀ {xs : List V} {us : List Value} (n : Nat),Ar xs us -> Ar (xs.drop n) (us.drop n)
 | _,_,0,r => r
 | _,_,_ + 1,.nil => .nil
 | _,_,n + 1,.cons _ t => Ar.drop n t
def Iq : Option V -> Option Value -> Prop
 | some v,some u => Ay v u
 | none,none => True
 | _,_ => False
def KV {κ : Type} : List (κ × V) -> List (κ × Value) -> Prop := Paired fun (p : κ × V) (q : κ × Value) => p.1 = q.1 /\ Ay p.2 q.2
def kV : AT -> V
 | .inl i => .int i
 | .inr x => .str x
inductive HO where
  | lst (xs : List V)
  | tup (xs : List V)
  | dK (kvs : List (AT × V)) | dT (kvs : List (List AT × V))
  | set (S : Int -> Bool) (n : Nat)
  | ins (C dx : Addr) (fs : List (Str × V))
  | own (x : Addr)
  | xd (fs : List (Str × V))
  | met (f x : Addr)
  | rng (lo hi : Int)
  | frz (o : Obj) (u : HO)
  | tbl (ps : Array Value)
  | ext (φ : Heap -> Prop)
abbrev Hp := Addr -> Option HO
def upd (H : Hp) (a : Addr) (o : HO) : Hp := fun b => if b = a then some o else H b
theorem Ai {H : Hp} {a : Addr} {o : HO} : upd H a o a = some o := by unfold upd; rw [if_pos rfl]
theorem Au {H : Hp} {a b : Addr} {o : HO} (h : b ≠ a) : upd H a o b = H b := by unfold upd; rw [if_neg h]
theorem Lp {H : Hp} {a b : Addr} {o u : HO} (h : H a = some o) (h' : H b = some u) (d : o ≠ u) : a ≠ b := by
 intro e; subst e; rw [h] at h'; exact d (Option.some.inj h')
theorem Bd {H : Hp} {a b : Addr} {o : HO} (h : H a = some o) (h' : H b = none) : a ≠ b := by
 intro e; subst e; rw [h] at h'; cases h'
section
variable (P : Program) (w : World)
def ObjOk (H : Hp) (h : Heap) (a : Addr) : HO -> Prop
 | .lst xs => xs.length <= sizeLine /\ ∃ (its : List Value) (n : Nat),Ar xs its /\ h.get? a = some { cls := .type "list",data := .seq its.toArray n }
 | .tup xs => xs.length <= sizeLine /\ ∃ its : List Value,Ar xs its /\ IsTup h a its.toArray
 | .dK kvs => kvs.length <= sizeLine /\ (a == sysModules) = false /\ ∃ vs,KV kvs vs /\ h.DictOf (Br P w) a vs
 | .dT kvs => kvs.length <= sizeLine /\ (a == sysModules) = false /\ ∃ xs : List (List AT × Addr × Value),
   Paired (fun (p : List AT × V) (q : List AT × Addr × Value) => p.1 = q.1 /\ H q.2.1 = some (.tup (p.1.map kV)) /\ Ay p.2 q.2.2) kvs xs /\
   ∃ o es ep,h.get? a = some o /\ o.ExactDict /\ o.data = .dict es ep /\ es.toList = xs.map (entryOfKey (tupleKind (Br P w))) /\ (xs.map (·.1)).Nodup
 | .set S n => h.SetOf (intKind P w) a S n
 | .ins C dx fs => H dx = some (.own a) /\ fs.length <= 1000 /\ dx ≠ a /\ h.get? a = some (PySem.W.instObj C dx) /\
   ∃ mA,h.Ns1 dx mA /\ (∀ f,Iq (fs.lookup f) (mA f)) /\ PySem.Within mA (fs.map (·.1))
 | .own _ => ∃ o,h.get? a = some o
 | .xd fs => ∃ mA,h.Ns1 a mA /\ ∀ f,Iq (fs.lookup f) (mA f)
 | .rng lo hi => ∃ t u v,h.get? a = some { cls := .type "range",data := .fields #[.int lo t,.int hi u,.int 1 v] }
 | .frz o u => h.get? a = some o /\ ObjOk H h a u
 | .tbl ps => h.get? a = some { cls := .none,data := .fields ps }
 | .met f x => h.get? a = some (PySem.W.methodObj (.ref f) (.ref x))
 | .ext φ => φ h /\ (∃ o,h.get? a = some o) /\ ∀ h1 h2 : Heap,φ h1 -> (∀ o,h1.get? a = some o -> h2.get? a = some o) -> φ h2
def HOk (H : Hp) (h : Heap) : Prop := ∀ a o,H a = some o -> ObjOk P w H h a o
end
section
variable {P : Program} {w : World} {H H' : Hp} {h h' : Heap} {a : Addr} {o : HO}
theorem ObjOk.lt (x : ObjOk P w H h a o) : a < h.objs.size := by
 cases o with
 | lst xs => obtain ⟨_,_,_,_,e⟩ := x; exact Heap.lt_size e
 | tup xs => obtain ⟨_,_,_,p⟩ := x; exact p.lt
 | dK kvs => obtain ⟨_,_,_,_,o,_,_,e,_⟩ := x; exact Heap.lt_size e
 | dT kvs => obtain ⟨_,_,_,_,o,_,_,e,_⟩ := x; exact Heap.lt_size e
 | set S n => obtain ⟨o,_,_,_,e,_⟩ := x; exact Heap.lt_size e
 | ins C dx fs => obtain ⟨_,_,_,e,_⟩ := x; exact Heap.lt_size e
 | own y => obtain ⟨_,e⟩ := x; exact Heap.lt_size e
 | xd fs => obtain ⟨_,⟨_,_,_,e,_⟩,_⟩ := x; exact Heap.lt_size e
 | rng lo hi => obtain ⟨_,_,_,e⟩ := x; exact Heap.lt_size e
 | frz ob u => obtain ⟨e,_⟩ := x; exact Heap.lt_size e
 | tbl ps => exact Heap.lt_size (show h.get? a = some _ from x)
 | met f y => exact Heap.lt_size (show h.get? a = some _ from x)
 | ext φ => obtain ⟨_,⟨_,e⟩,_⟩ := x; exact Heap.lt_size e
theorem Paired.mapP {α β : Type} {F G : α -> β -> Prop} : ∀ {l₁ : List α} {l₂ : List β},Paired F l₁ l₂ -> (∀ a b,F a b -> G a b) -> Paired G l₁ l₂
 | _,_,.nil,_ => .nil
 | _,_,.cons r t,f => .cons (f _ _ r) (Paired.mapP t f)
theorem ObjOk.stay (x : ObjOk P w H h a o) (k : ∀ b u,(b = a \/ H b = some (.own a)) -> h.get? b = some u -> h'.get? b = some u)
  (ho : ∀ b,H b = some (.own a) -> H' b = some (.own a)) (ht : ∀ b xs,H b = some (.tup xs) -> H' b = some (.tup xs)) : ObjOk P w H' h' a o := by
 induction o with
 | lst xs => obtain ⟨z,its,n,r,e⟩ := x; exact ⟨z,its,n,r,k _ _ (.inl rfl) e⟩
 | tup xs => obtain ⟨z,its,r,ob,e,c⟩ := x; exact ⟨z,its,r,ob,k _ _ (.inl rfl) e,c⟩
 | dK kvs => obtain ⟨z,y,vs,r,ob,es,ep,e,c⟩ := x; exact ⟨z,y,vs,r,ob,es,ep,k _ _ (.inl rfl) e,c⟩
 | dT kvs =>
  obtain ⟨z,y,xs,r,ob,es,ep,e,c⟩ := x
  exact ⟨z,y,xs,Paired.mapP r fun p q z => ⟨z.1,ht _ _ z.2.1,z.2.2⟩,ob,es,ep,k _ _ (.inl rfl) e,c⟩
 | set S n => obtain ⟨ob,es,ep,t,e,c⟩ := x; exact ⟨ob,es,ep,t,k _ _ (.inl rfl) e,c⟩
 | ins C dx fs =>
  obtain ⟨d,z,ne,e,mA,⟨od,es,ep,e2,c⟩,r⟩ := x
  exact ⟨ho _ d,z,ne,k _ _ (.inl rfl) e,mA,⟨od,es,ep,k _ _ (.inr d) e2,c⟩,r⟩
 | own y => obtain ⟨ob,e⟩ := x; exact ⟨ob,k _ _ (.inl rfl) e⟩
 | xd fs => obtain ⟨mA,⟨od,es,ep,e,c⟩,r⟩ := x; exact ⟨mA,⟨od,es,ep,k _ _ (.inl rfl) e,c⟩,r⟩
 | rng lo hi => obtain ⟨t,u,v,e⟩ := x; exact ⟨t,u,v,k _ _ (.inl rfl) e⟩
 | frz ob u ih => obtain ⟨e,q⟩ := x; exact ⟨k _ _ (.inl rfl) e,ih q⟩
 | tbl ps =>
  have e : h.get? a = some { cls := .none,data := .fields ps } := x
  show h'.get? a = some { cls := .none,data := .fields ps }
  exact k a _ (.inl rfl) e
 | met f y =>
  have e : h.get? a = some (PySem.W.methodObj (.ref f) (.ref y)) := x
  show h'.get? a = some (PySem.W.methodObj (.ref f) (.ref y))
  exact k a _ (.inl rfl) e
 | ext φ => obtain ⟨p,⟨o,e⟩,st⟩ := x; exact ⟨st _ _ p fun o q => k _ _ (.inl rfl) q,⟨o,k _ _ (.inl rfl) e⟩,st⟩
theorem HOk.lt (x : HOk P w H h) (e : H a = some o) : a < h.objs.size := (x a o e).lt
theorem HOk.fresh (x : HOk P w H h) (e : h.objs.size <= a) : H a = none := by
 cases q : H a with
 | none => rfl
 | some u => exact absurd (Nat.lt_of_lt_of_le (x.lt q) e) (Nat.lt_irrefl _)
theorem HOk.kept (x : HOk P w H h) (k : ∀ b u,h.get? b = some u -> h'.get? b = some u) : HOk P w H h' := fun a o e =>
 (x a o e).stay (fun b u _ q => k b u q) (fun _ q => q) fun _ _ q => q
theorem HOk.laid (x : HOk P w H h) (k : ∀ b u,h.get? b = some u -> h'.get? b = some u) (hp : h.objs.size <= a) (new : ObjOk P w (upd H a o) h' a o) : HOk P w (upd H a o) h' := fun b u e => by
 have hn := x.fresh hp
 by_cases hb : b = a
 ·subst hb; rw [Ai] at e; cases e; exact new
 ·rw [Au hb] at e
  exact (x b u e).stay (fun c v _ q => k c v q) (fun c q => by rw [Au (Bd q hn)]; exact q) fun c xs q => by rw [Au (Bd q hn)]; exact q
end
def Rd (H : Hp) (a : Addr) (u : HO) : Prop := H a = some u \/ ∃ o,H a = some (.frz o u)
theorem Rd.ok {P : Program} {w : World} {H : Hp} {h : Heap} {a : Addr} {u : HO} (r : Rd H a u) (x : HOk P w H h) : ObjOk P w H h a u := by
 rcases r with r | ⟨o,r⟩
 ·exact x a u r
 ·obtain ⟨_,q⟩ := x a _ r
  exact q
def Fj : Option HO -> Prop
 | some (.lst _) => True
 | some (.dK _) => True
 | some (.dT _) => True
 | some (.set _ _) => True
 | some (.ins _ _ _) => True
 | some (.ext _) => True
 | _ => False
section
variable {P : Program} {w : World} {H : Hp} {h h' : Heap} {x e : Addr} {o' : HO}
theorem HOk.write (ok : HOk P w H h) (mu : Fj (H x)) (he : e = x \/ H e = some (.own x)) (k : ∀ b u,b ≠ e -> h.get? b = some u -> h'.get? b = some u) (heo : ∃ u,h'.get? e = some u)
  (new : ObjOk P w (upd H x o') h' x o') : HOk P w (upd H x o') h' := fun b u q => by
 have nown : ∀ c y,H c = some (.own y) -> c ≠ x := fun c y r z => by subst z; rw [r] at mu; exact mu
 have ntup : ∀ c xs,H c = some (.tup xs) -> c ≠ x := fun c xs r z => by subst z; rw [r] at mu; exact mu
 by_cases hb : b = x
 ·subst hb; rw [Ai] at q; cases q; exact new
 ·rw [Au hb] at q
  by_cases hbe : b = e
  ·have q' : H b = some (.own x) := by
    rcases he with z | z
    ·exact absurd (hbe.trans z) hb
    ·rw [hbe]; exact z
   rw [q] at q'; cases q'
   obtain ⟨v,hv⟩ := heo
   exact ⟨v,by rw [hbe]; exact hv⟩
  ·refine (ok b u q).stay (fun c v hc r => k c v ?_ r) (fun c r => by rw [Au (nown c b r)]; exact r) fun c xs r => by rw [Au (ntup c xs r)]; exact r
   rcases hc with rfl | hc
   ·exact hbe
   ·rintro rfl
    rcases he with z | z
    ·exact nown c b hc z
    ·rw [hc] at z; cases z; exact hb rfl
end
structure Un (fs ex : List Addr) (H H' : Hp) (h h' : Heap) : Prop where
 keep : ∀ b o,h.get? b = some o -> H b = none -> b ∉ fs -> b ∉ ex -> h'.get? b = some o
 slot : ∀ b o,h.get? b = some o -> H b = none -> b ∈ fs -> b ∉ ex -> ∃ sl,h'.get? b = some { o with slots := sl }
 free : ∀ b o,h.get? b = some o -> H b = none -> b ∉ ex -> H' b = none
 there : ∀ b o,h.get? b = some o -> b ∉ ex -> ∃ o',h'.get? b = some o'
 tups : ∀ b xs,H b = some (.tup xs) -> H' b = some (.tup xs)
 frzs : ∀ b o u,H b = some (.frz o u) -> H' b = some (.frz o u)
 tbls : ∀ b ps,H b = some (.tbl ps) -> ∃ more,H' b = some (.tbl (ps ++ more))
section
variable {fs fs' ex ex' : List Addr} {H H1 H2 : Hp} {h h1 h2 h' : Heap} {a x e : Addr} {o : HO}
theorem Un.any (u : Un fs ex H H1 h h1) {b : Addr} {ob : Obj} (q : h.get? b = some ob) (n : H b = none) (hx : b ∉ ex) : ∃ sl,h1.get? b = some { ob with slots := sl } := by
 by_cases hb : b ∈ fs
 ·exact u.slot b ob q n hb hx
 ·exact ⟨ob.slots,u.keep b ob q n hb hx⟩
theorem Un.kept (k : ∀ b u,h.get? b = some u -> h'.get? b = some u) : Un fs ex H H h h' :=
 ⟨fun b ob q _ _ _ => k b ob q,fun b ob q _ _ _ => ⟨ob.slots,k b ob q⟩,fun _ _ _ n _ => n,fun b ob q _ => ⟨ob,k b ob q⟩,fun _ _ q => q,fun _ _ _ q => q,fun _ ps q => ⟨#[],by rw [q]; simp⟩⟩
theorem Un.refl : Un fs ex H H h h := Un.kept fun _ _ q => q
theorem Un.laid (k : ∀ b u,h.get? b = some u -> h'.get? b = some u) (hp : h.objs.size <= a) (hn : H a = none) : Un fs ex H (upd H a o) h h' where
 keep := fun b u q _ _ _ => k b u q
 slot := fun b u q _ _ _ => ⟨u.slots,k b u q⟩
 free := fun b u q n _ => by rw [Au (Nat.ne_of_lt (Nat.lt_of_lt_of_le (Heap.lt_size q) hp))]; exact n
 there := fun b u q _ => ⟨u,k b u q⟩
 tups := fun b xs q => by rw [Au (Bd q hn)]; exact q
 frzs := fun b u xs q => by rw [Au (Bd q hn)]; exact q
 tbls := fun b ps q => ⟨#[],by rw [Au (Bd q hn),q]; simp⟩
theorem Un.write (mu : Fj (H x)) (he : e = x \/ H e = some (.own x)) (k : ∀ b u,b ≠ e -> h.get? b = some u -> h'.get? b = some u) (heo : ∃ u,h'.get? e = some u) : Un fs ex H (upd H x o) h h' := by
 have hx : ∀ b,H b = none -> b ≠ x := fun b n z => by subst z; rw [n] at mu; exact mu
 have hb : ∀ b,H b = none -> b ≠ e := fun b n z => by
  subst z
  rcases he with r | r
  ·exact hx b n r
  ·rw [n] at r; cases r
 have hm : ∀ b u,H b = some u -> ¬ Fj (some u) -> b ≠ x := fun b u q nm z => by subst z; rw [q] at mu; exact nm mu
 refine ⟨fun b u q n _ _ => k b u (hb b n) q,fun b u q n _ _ => ⟨u.slots,k b u (hb b n) q⟩,fun b u q n _ => by rw [Au (hx b n)]; exact n,fun b u q _ => ?_,
  fun b xs q => by rw [Au (hm b _ q fun z => z)]; exact q,fun b u xs q => by rw [Au (hm b _ q fun z => z)]; exact q,fun b ps q => ⟨#[],by rw [Au (hm b _ q fun z => z),q]; simp⟩⟩
 by_cases hbe : b = e
 ·subst hbe; exact heo
 ·exact ⟨u,k b u hbe q⟩
end
def Fk (h : Heap) (H : Hp) : List Addr := (List.range h.objs.size).filter fun a => (H a).isSome
def CQ (h : Heap) (H : Hp) : Heap := PySem.W.hideAll h (Fk h H)
theorem Lr (h : Heap) (H : Hp) : (CQ h H).objs.size = h.objs.size := PySem.W.hideAll_size _ _
theorem Ls {h : Heap} {H : Hp} {b : Addr} {o : Obj} (e : h.get? b = some o) (n : H b = none) : (CQ h H).get? b = some o :=
 PySem.W.hideAll_get _ e fun hm => by
  have q : (H b).isSome = true := (List.mem_filter.mp hm).2
  rw [n] at q; simp at q
theorem Lu {h : Heap} {H : Hp} {b : Addr} {o : Obj} (e : (CQ h H).get? b = some o) : h.get? b = some o /\ H b = none := by
 have e' : h.get? b = some o := PySem.W.of_hideAll (Fk h H) e
 refine ⟨e',?_⟩
 cases q : H b with
 | none => rfl
 | some x =>
  have hm : b ∈ Fk h H := List.mem_filter.mpr ⟨List.mem_range.mpr (Heap.lt_size e'),by simp [q]⟩
  have z : (CQ h H).get? b = none := PySem.W.hideAll_none (Fk h H) hm
  rw [z] at e; cases e
def Lv (g h : Heap) (L : Addr) : List (Addr × Obj) := (List.range h.objs.size).filterMap fun a => if a = L \/ (g.get? a).isSome = true then none else (h.get? a).map fun o => (a,o)
def rest (g h : Heap) (L d : Addr) : List (Addr × Obj) := (Lv g h L).filter fun p => decide (p.1 ≠ d)
end L2
namespace L2
open PySem PySem.Spec PyProof.Rows
variable {g' : Array GenState} {t' i : Nat} {d' : Drawn} {ch : List Addr} {M : Model} {E : Value -> Shared -> Prop} {v : V} {u : Value} {Q : Unit -> Shared -> Prop}
structure Mod (K : PySem.W.Frag) (mg : Str -> Option Value) (base : Heap) : Prop where
 kin : K.In base
 glob : base.Ns mainGlobals mg
 blt : ∃ mb,base.Ns builtinsNs mb /\ ∀ x : Str,x ≠ "__name__" -> mb x = bootBuiltins x
 nolimit : base.NoLimit
structure Cx where
 prog : Program
 w : World
 K : PySem.W.Frag
 mg : Str -> Option Value
 base : Heap
 A : Around
 N : List Str
 s₀ : Shared
 H₀ : Hp
 env : Env
 outer : List Env
 stack : List Env
 ex : List Addr
 fn : Str -> Bool
 calm : Bool
 pn : List (Addr × Obj)
 xe : Value -> Shared -> Prop
def Bx (l : List Env) : List Addr := l.filterMap (·.frame)
abbrev Cx.fs (X : Cx) : List Addr := Bx X.outer
def DV (sc : Scope) (x : Str) : Prop := sc.names.lookup x = some .local \/ sc.names.lookup x = some .cell \/ sc.names.lookup x = some .free
def C9 (sc : Scope) (x : Str) : Prop := sc.names.lookup x = some .local \/ sc.names.lookup x = some .cell
def Lw (env : Env) (h : Heap) (m : Str -> Option Value) (x : Str) (u : Value) : Prop :=
 (env.kindOf x = some .local /\ m x = some u) \/ ((env.kindOf x = some .cell \/ env.kindOf x = some .free) /\ ∃ c,env.cells.lookup x = some c /\ h.IsCell c (some u))
structure Cx.Ok (X : Cx) : Prop where
 mod : Mod X.K X.mg X.base
 kind : X.env.scope.kind = .function
 glob : X.env.globals = mainGlobals
 blt : X.env.builtins = builtinsNs
 above : X.s₀.heap.objs.size <= X.env.locals
 inj : ∀ x y c,X.env.cells.lookup x = some c -> X.env.cells.lookup y = some c -> x = y
 has : ∀ x,(X.env.kindOf x = some .cell \/ X.env.kindOf x = some .free) -> ∃ c,X.env.cells.lookup x = some c
 cab : ∀ x c,X.fn x = true -> X.env.cells.lookup x = some c -> X.s₀.heap.objs.size <= c
 hd : X.calm = true -> X.A.handled = none
 frames : X.A.frames = some X.stack
 stk : X.stack = X.outer \/ (X.stack = X.env :: X.outer /\ X.env.frame = some X.env.locals)
 exf : ∀ b ∈ X.ex,b ≠ X.env.locals /\ ∀ x c,X.env.cells.lookup x = some c -> c ≠ b
 bs : ∀ b o,X.base.get? b = some o -> X.s₀.heap.get? b = some o /\ X.H₀ b = none
 bsz : X.base.objs.size <= X.s₀.heap.objs.size
 noex : ∀ b o,X.base.get? b = some o -> b ∉ X.ex
 exfs : ∀ b ∈ X.ex,b ∉ X.fs
 funs : X.s₀.heap.FunFrames X.base X.outer
 frf : ∀ b ∈ X.fs,X.H₀ b = none
structure Ae (X : Cx) (pins : List (Addr × Obj)) (σ : List (Option V)) (H : Hp) (s : Shared) : Prop where
 ok : X.Ok
 os : s.os = X.s₀.os
 bare : AllBare s.gens
 base : Un X.fs X.ex X.H₀ H X.s₀.heap s.heap
 loc : ∃ m,s.heap.Ns X.env.locals m /\ ∀ (i : Nat) (x : Str) (v : V),X.N[i]? = some x -> σ[i]? = some (some v) -> DV X.env.scope x -> ∃ u,Ay v u /\ Lw X.env s.heap m x u
 cell : ∀ x c,X.env.cells.lookup x = some c -> ∃ v,s.heap.IsCell c v
 free : H X.env.locals = none
 freeC : ∀ x c,X.env.cells.lookup x = some c -> H c = none
 pin : ∀ p ∈ X.pn ++ pins,s.heap.get? p.1 = some p.2 /\ H p.1 = none /\ p.1 ≠ X.env.locals /\ p.1 ∉ X.fs /\ ∀ v,p.2.data ≠ .cell v
 hok : HOk X.prog X.w H s.heap
 len : σ.length = X.N.length
section
variable {X : Cx} {pins : List (Addr × Obj)} {σ : List (Option V)} {H H' : Hp} {s : Shared} {h' : Heap}
theorem Cx.Ok.nofr (ok : X.Ok) {b : Addr} {o : Obj} (e : X.base.get? b = some o) : b ∉ X.fs := fun hb => by
 have := (ok.funs.mem hb).1
 rw [e] at this; cases this
theorem Ae.bs (I : Ae X pins σ H s) : ∀ b o,X.base.get? b = some o -> s.heap.get? b = some o /\ H b = none := fun b o e =>
 ⟨I.base.keep b o (I.ok.bs b o e).1 (I.ok.bs b o e).2 (I.ok.nofr e) (I.ok.noex b o e),I.base.free b o (I.ok.bs b o e).1 (I.ok.bs b o e).2 (I.ok.noex b o e)⟩
theorem Ae.bk (I : Ae X pins σ H s) : ∀ b o,X.base.get? b = some o -> s.heap.get? b = some o := fun b o e => (I.bs b o e).1
theorem Ae.mod (I : Ae X pins σ H s) : Mod X.K X.mg X.base := I.ok.mod
theorem Ae.kIn (I : Ae X pins σ H s) : X.K.In s.heap := I.ok.mod.kin.keeps I.bk
theorem Ae.lt (I : Ae X pins σ H s) : X.env.locals < s.heap.objs.size := let ⟨_,hn,_⟩ := I.loc; hn.lt
theorem Ae.sz (I : Ae X pins σ H s) : X.s₀.heap.objs.size <= s.heap.objs.size := Nat.le_trans I.ok.above (Nat.le_of_lt I.lt)
theorem Ae.nofs (I : Ae X pins σ H s) {a : Addr} (h : s.heap.objs.size <= a) : a ∉ X.fs := fun hb => by
 obtain ⟨_,o,ho,_⟩ := I.ok.funs.mem hb
 exact absurd (Nat.lt_of_lt_of_le (Heap.lt_size ho) (Nat.le_trans I.sz h)) (Nat.lt_irrefl _)
theorem Ae.cne (I : Ae X pins σ H s) : ∀ x c,X.env.cells.lookup x = some c -> c ≠ X.env.locals := fun x c e z => by
 obtain ⟨v,o,ho,hd⟩ := I.cell x c e
 obtain ⟨m,⟨o',es,ep,ho',hd',_⟩,_⟩ := I.loc
 rw [z,ho'] at ho; cases ho; rw [hd'] at hd; cases hd
theorem Ae.funs (I : Ae X pins σ H s) : s.heap.FunFrames X.base X.outer := by
 have all : ∀ (l : List Env),(∀ b ∈ Bx l,b ∈ X.fs) -> X.s₀.heap.FunFrames X.base l -> s.heap.FunFrames X.base l := by
  intro l
  induction l with
  | nil => intro _ _; trivial
  | cons env r ih =>
   intro hs hl
   obtain ⟨hk,⟨L,o,hf,hn,ho,hd⟩,hr⟩ := hl
   have hL : L ∈ X.fs := hs L (by unfold Bx; rw [List.filterMap_cons,hf]; exact List.mem_cons_self)
   obtain ⟨sl,e⟩ := I.base.slot L o ho (I.ok.frf L hL) hL fun z => I.ok.exfs L z hL
   exact ⟨hk,⟨L,_,hf,hn,e,hd⟩,ih (fun b hb => hs b (by unfold Bx; rw [List.filterMap_cons,hf]; exact List.mem_cons_of_mem _ hb)) hr⟩
 exact all X.outer (fun _ hb => hb) I.ok.funs
theorem Ae.stack (I : Ae X pins σ H s) : s.heap.FunFrames X.base X.stack := by
 rcases I.ok.stk with e | ⟨e,hf⟩
 ·rw [e]; exact I.funs
 ·rw [e]
  obtain ⟨m,hn,_⟩ := I.loc
  refine .cons (by rw [I.ok.kind]; decide) hf hn ?_ I.funs
  exact Heap.get?_none_of_le (Nat.le_trans I.ok.bsz I.ok.above)
theorem Ae.stkSub (I : Ae X pins σ H s) : ∀ b ∈ Bx X.stack,b ∈ X.env.locals :: X.fs := fun b hb => by
 rcases I.ok.stk with e | ⟨e,hf⟩
 ·rw [e] at hb; exact List.mem_cons_of_mem _ hb
 ·rw [e] at hb
  unfold Bx at hb
  rw [List.filterMap_cons,hf] at hb
  exact hb
theorem Ae.stkFree (I : Ae X pins σ H s) : ∀ b ∈ Bx X.stack,H b = none := fun b hb => by
 rcases List.mem_cons.mp (I.stkSub b hb) with e | hb
 ·rw [e]; exact I.free
 ·obtain ⟨_,o,ho,_⟩ := I.ok.funs.mem hb
  exact I.base.free b o ho (I.ok.frf b hb) fun z => I.ok.exfs b z hb
theorem Ae.step (I : Ae X pins σ H s)
  (hch : ∀ b ∈ ch,(b ∈ X.ex \/ X.s₀.heap.objs.size <= b) /\ b ≠ X.env.locals /\ (∀ x c,X.env.cells.lookup x = some c -> c ≠ b) /\ ∀ p ∈ X.pn ++ pins,p.1 ≠ b)
  (keep : ∀ b o,b ≠ X.env.locals -> b ∉ X.fs -> b ∉ ch -> s.heap.get? b = some o -> H b = none -> h'.get? b = some o)
  (slot : ∀ b o,b ≠ X.env.locals -> b ∈ X.fs -> b ∉ ch -> s.heap.get? b = some o -> H b = none -> ∃ sl,h'.get? b = some { o with slots := sl }) (free : ∀ b o,b ∉ ch -> s.heap.get? b = some o -> H b = none -> H' b = none)
  (there : ∀ b o,b ∉ ch -> s.heap.get? b = some o -> ∃ o',h'.get? b = some o')
  (tups : ∀ b xs,H b = some (.tup xs) -> H' b = some (.tup xs)) (frzs : ∀ b o u,H b = some (.frz o u) -> H' b = some (.frz o u)) (tbls : ∀ b ps,H b = some (.tbl ps) -> ∃ more,H' b = some (.tbl (ps ++ more)))
  (ns : ∀ m,s.heap.Ns X.env.locals m -> h'.Ns X.env.locals m) (hok : HOk X.prog X.w H' h') (hg : AllBare g') :
  Ae X pins σ H' { s with heap := h',gens := g',drawn := d',toks := t' } := by
 have neL : ∀ b o,X.s₀.heap.get? b = some o -> b ≠ X.env.locals := fun b o e => Nat.ne_of_lt (Nat.lt_of_lt_of_le (Heap.lt_size e) I.ok.above)
 have neC : ∀ b o,X.s₀.heap.get? b = some o -> b ∉ X.ex -> b ∉ ch := fun b o e hx hb => by
  rcases (hch b hb).1 with z | z
  ·exact hx z
  ·exact absurd (Nat.lt_of_lt_of_le (Heap.lt_size e) z) (Nat.lt_irrefl _)
 have cellK : ∀ x c,X.env.cells.lookup x = some c -> ∀ v,s.heap.IsCell c v -> h'.IsCell c v := fun x c e v ⟨o,ho,hd⟩ => by
  have nch : c ∉ ch := fun z => (hch c z).2.2.1 x c e rfl
  by_cases hc : c ∈ X.fs
  ·obtain ⟨sl,q⟩ := slot c o (I.cne x c e) hc nch ho (I.freeC x c e)
   exact ⟨_,q,hd⟩
  ·exact ⟨o,keep c o (I.cne x c e) hc nch ho (I.freeC x c e),hd⟩
 refine ⟨I.ok,I.os,hg,⟨fun b o e n hb hx => ?_,fun b o e n hb hx => ?_,fun b o e n hx => ?_,fun b o e hx => ?_,fun b xs e => tups b xs (I.base.tups b xs e),fun b o xs e => frzs b o xs (I.base.frzs b o xs e),fun b ps e => ?_⟩,?_,fun x c e => ?_,?_,fun x c e => ?_,fun p hp => ?_,hok,I.len⟩
 ·exact keep b o (neL b o e) hb (neC b o e hx) (I.base.keep b o e n hb hx) (I.base.free b o e n hx)
 ·obtain ⟨sl,e1⟩ := I.base.slot b o e n hb hx
  obtain ⟨sl',e2⟩ := slot b _ (neL b o e) hb (neC b o e hx) e1 (I.base.free b o e n hx)
  exact ⟨sl',e2⟩
 ·obtain ⟨o',e1⟩ := I.base.there b o e hx
  exact free b o' (neC b o e hx) e1 (I.base.free b o e n hx)
 ·obtain ⟨o',e1⟩ := I.base.there b o e hx
  exact there b o' (neC b o e hx) e1
 ·obtain ⟨m1,e1⟩ := I.base.tbls b ps e
  obtain ⟨m2,e2⟩ := tbls b _ e1
  exact ⟨m1 ++ m2,by rw [e2,Array.append_assoc]⟩
 ·obtain ⟨m,hn,hl⟩ := I.loc
  refine ⟨m,ns m hn,fun i x v e1 e2 e3 => ?_⟩
  obtain ⟨u,r,l⟩ := hl i x v e1 e2 e3
  refine ⟨u,r,?_⟩
  rcases l with l | ⟨k,c,e,z⟩
  ·exact .inl l
  ·exact .inr ⟨k,c,e,cellK x c e _ z⟩
 ·obtain ⟨v,z⟩ := I.cell x c e
  exact ⟨v,cellK x c e v z⟩
 ·obtain ⟨m,⟨o,_,_,ho,_⟩,_⟩ := I.loc
  exact free _ o (fun z => (hch _ z).2.1 rfl) ho I.free
 ·obtain ⟨v,o,ho,hd⟩ := I.cell x c e
  exact free c o (fun z => (hch c z).2.2.1 x c e rfl) ho (I.freeC x c e)
 ·obtain ⟨e,n,ne,nf,d⟩ := I.pin p hp
  have nch : p.1 ∉ ch := fun z => (hch p.1 z).2.2.2 p hp rfl
  exact ⟨keep p.1 p.2 ne nf nch e n,free p.1 p.2 nch e n,ne,nf,d⟩
theorem Ae.un (I : Ae X pins σ H s) (u : Un X.fs [] H H' s.heap h') (hok : HOk X.prog X.w H' h') : Ae X pins σ H' { s with heap := h',toks := t' } := by
 obtain ⟨m,⟨o,es,ep,ho,r⟩,_⟩ := id I.loc
 obtain ⟨sl,hL⟩ := u.any ho I.free (by simp)
 exact I.step (g' := s.gens) (d' := s.drawn) (ch := []) (fun _ z => nomatch z) (fun b o _ hb _ e n => u.keep b o e n hb (by simp)) (fun b o _ hb _ e n => u.slot b o e n hb (by simp)) (fun b o _ e n => u.free b o e n (by simp)) (fun b o _ e => u.there b o e (by simp)) u.tups u.frzs u.tbls (fun m' hm => by
  obtain ⟨o',es',ep',ho',r'⟩ := hm
  rw [ho] at ho'; cases ho'
  exact ⟨_,es',ep',hL,r'⟩) hok I.bare
theorem Ae.call (I : Ae X pins σ H s) (u : Un (Bx X.stack) ch H H' s.heap h') (hok : HOk X.prog X.w H' h') (hg : AllBare g')
  (hch : ∀ b ∈ ch,(b ∈ X.ex \/ X.s₀.heap.objs.size <= b) /\ b ≠ X.env.locals /\ (∀ x c,X.env.cells.lookup x = some c -> c ≠ b) /\ ∀ p ∈ X.pn ++ pins,p.1 ≠ b) :
  Ae X pins σ H' { s with heap := h',gens := g',drawn := d',toks := t' } := by
 obtain ⟨m,⟨o,es,ep,ho,r⟩,_⟩ := id I.loc
 obtain ⟨sl,hL⟩ := u.any ho I.free fun z => (hch _ z).2.1 rfl
 exact I.step (ch := ch) hch (fun b o hL hb hc e n => u.keep b o e n (fun z => (List.mem_cons.mp (I.stkSub b z)).elim hL hb) hc) (fun b o _ _ hc e n => u.any e n hc) (fun b o hc e n => u.free b o e n hc) (fun b o hc e => u.there b o e hc) u.tups u.frzs u.tbls (fun m' hm => by
  obtain ⟨o',es',ep',ho',r'⟩ := hm
  rw [ho] at ho'; cases ho'
  exact ⟨_,es',ep',hL,r'⟩) hok hg
theorem Ae.turned {it : Addr} (I : Ae X pins σ H s) (k : ∀ b o,b ≠ it -> s.heap.get? b = some o -> h'.get? b = some o) (hn : H it = none) (hL : it ≠ X.env.locals)
  (h1 : it ∈ X.ex \/ X.s₀.heap.objs.size <= it) (h2 : ∀ x c,X.env.cells.lookup x = some c -> c ≠ it) (h3 : ∀ p ∈ X.pn ++ pins,p.1 ≠ it) : Ae X pins σ H { s with heap := h',toks := t' } := by
 have nit : ∀ b u,H b = some u -> b ≠ it := fun b u e z => by rw [z,hn] at e; cases e
 refine I.step (g' := s.gens) (d' := s.drawn) (ch := [it]) (fun b hb => ?_) (fun b o _ _ hc e _ => k b o (fun z => hc (by simp [z])) e) (fun b o _ _ hc e _ => ⟨o.slots,k b o (fun z => hc (by simp [z])) e⟩) (fun _ _ _ _ n => n)
  (fun b o hc e => ⟨o,k b o (fun z => hc (by simp [z])) e⟩) (fun _ _ e => e) (fun _ _ _ e => e) (fun b ps e => ⟨#[],by rw [e]; simp⟩) (fun m hm => ?_) (fun b u e => ?_) I.bare
 ·have e : b = it := by simpa using hb
  subst e
  exact ⟨h1,hL,h2,h3⟩
 ·obtain ⟨o,es,ep,ho,r⟩ := hm
  exact ⟨o,es,ep,k _ o (Ne.symm hL) ho,r⟩
 ·refine (I.hok b u e).stay (fun c v hc q => k c v ?_ q) (fun _ q => q) fun _ _ q => q
  rcases hc with z | z
  ·rw [z]; exact nit b u e
  ·exact nit c _ z
theorem Ae.tok (I : Ae X pins σ H s) (t : Nat) : Ae X pins σ H { s with toks := t } := I.un (h' := s.heap) (t' := t) Un.refl I.hok
theorem Ae.kept (I : Ae X pins σ H s) (k : ∀ b u,s.heap.get? b = some u -> h'.get? b = some u) : Ae X pins σ H { s with heap := h',toks := t' } := I.un (Un.kept k) (I.hok.kept k)
theorem Ae.laid {a : Addr} {o : HO} (I : Ae X pins σ H s) (k : ∀ b u,s.heap.get? b = some u -> h'.get? b = some u) (hp : s.heap.objs.size <= a) (new : ObjOk X.prog X.w (upd H a o) h' a o) :
  Ae X pins σ (upd H a o) { s with heap := h',toks := t' } := I.un (Un.laid k hp (I.hok.fresh hp)) (I.hok.laid k hp new)
theorem Ae.write {x e : Addr} {o : HO} (I : Ae X pins σ H s) (mu : Fj (H x)) (he : e = x \/ H e = some (.own x)) (k : ∀ b u,b ≠ e -> s.heap.get? b = some u -> h'.get? b = some u) (heo : ∃ u,h'.get? e = some u)
  (new : ObjOk X.prog X.w (upd H x o) h' x o) : Ae X pins σ (upd H x o) { s with heap := h',toks := t' } := I.un (Un.write mu he k heo) (I.hok.write mu he k heo new)
theorem Ae.weak {σ' : List (Option V)} (I : Ae X pins σ H s) (hl : σ'.length = σ.length) (w : ∀ (i : Nat) v,σ'[i]? = some (some v) -> σ[i]? = some (some v)) : Ae X pins σ' H s :=
 ⟨I.ok,I.os,I.bare,I.base,let ⟨m,hn,hl'⟩ := I.loc; ⟨m,hn,fun i x v e1 e2 e3 => hl' i x v e1 (w i v e2) e3⟩,I.cell,I.free,I.freeC,I.pin,I.hok,hl.trans I.len⟩
theorem Ae.pins_of {pins' : List (Addr × Obj)} (I : Ae X pins σ H s) (h : ∀ p ∈ pins',s.heap.get? p.1 = some p.2 /\ H p.1 = none /\ p.1 ≠ X.env.locals /\ p.1 ∉ X.fs /\ ∀ v,p.2.data ≠ .cell v) : Ae X pins' σ H s :=
 ⟨I.ok,I.os,I.bare,I.base,I.loc,I.cell,I.free,I.freeC,fun p hp => (List.mem_append.mp hp).elim (fun z => I.pin p (List.mem_append_left _ z)) (h p),I.hok,I.len⟩
theorem Ir {N : List Str} (hN : N.Nodup) {i j : Nat} {x : Str} (a : N[i]? = some x) (b : N[j]? = some x) : i = j := by
 obtain ⟨h1,e1⟩ := List.getElem?_eq_some_iff.mp a
 obtain ⟨h2,e2⟩ := List.getElem?_eq_some_iff.mp b
 exact (List.getElem_inj hN).mp (e1.trans e2.symm)
theorem GZ {A : Around} {x : Str} (I : Ae X pins σ H s) (hN : X.N.Nodup) (hi : X.N[i]? = some x) (hx : C9 X.env.scope x) (r : Ay v u)
  (h : ∀ s',Ae X pins (σ.set i (some v)) H s' -> (∃ a,Heap.SameBut a s.heap s'.heap /\ (a = X.env.locals \/ X.env.cells.lookup x = some a)) -> Q () s') (hf : X.fn x = true \/ X.env.scope.names.lookup x = some .local := by first | exact .inl rfl | exact .inr rfl | assumption) : wpAny M A (storeName X.env x u) Q E s := by
 obtain ⟨m,hn,hl⟩ := id I.loc
 have hcls : (X.env.scope.kind == .class || (X.env.scope.kind == .module && X.env.locals != X.env.globals)) = false := by rw [I.ok.kind]; rfl
 have hiσ : i < σ.length := by rw [I.len]; exact (List.getElem?_eq_some_iff.mp hi).1
 have cne := I.cne
 have tracked : ∀ {a : Addr} {h' : Heap},(∃ o,s.heap.get? a = some o /\ H a = none) -> Heap.SameBut a s.heap h' -> HOk X.prog X.w H h' := fun {a h'} ha hs b ob e => by
  obtain ⟨_,_,hfree⟩ := ha
  refine (I.hok b ob e).stay (fun c w' hc q => (hs.2 c ?_).trans q) (fun _ q => q) fun _ _ q => q
  rintro rfl
  rcases hc with rfl | hc
  ·rw [hfree] at e; cases e
  ·rw [hfree] at hc; cases hc
 rcases hx with hk | hk
 ·refine wpAny_storeName_local hk hn (fun h' hn' hs => ?_) hcls
  obtain ⟨oL,_,_,hoL,_⟩ := id hn
  refine h _ ⟨I.ok,I.os,I.bare,⟨fun b o e n hb hx => ?_,fun b o e n hb hx => ?_,I.base.free,fun b o e hx => ?_,I.base.tups,I.base.frzs,I.base.tbls⟩,⟨_,hn',fun j y v' e1 e2 e3 => ?_⟩,fun y c e => ?_,I.free,I.freeC,fun p hp => ?_,tracked ⟨oL,hoL,I.free⟩ hs,by simpa using I.len⟩ ⟨_,hs,.inl rfl⟩
  ·exact (hs.2 b (Nat.ne_of_lt (Nat.lt_of_lt_of_le (Heap.lt_size e) I.ok.above))).trans (I.base.keep b o e n hb hx)
  ·obtain ⟨sl,e1⟩ := I.base.slot b o e n hb hx
   exact ⟨sl,(hs.2 b (Nat.ne_of_lt (Nat.lt_of_lt_of_le (Heap.lt_size e) I.ok.above))).trans e1⟩
  ·obtain ⟨o',e1⟩ := I.base.there b o e hx
   exact ⟨o',(hs.2 b (Nat.ne_of_lt (Nat.lt_of_lt_of_le (Heap.lt_size e) I.ok.above))).trans e1⟩
  ·by_cases hj : j = i
   ·subst hj
    rw [hi] at e1; cases e1
    rw [List.getElem?_set_self hiσ] at e2
    cases e2
    exact ⟨u,r,.inl ⟨hk,by simp⟩⟩
   ·rw [List.getElem?_set_ne (Ne.symm hj)] at e2
    obtain ⟨u',r',q⟩ := hl j y v' e1 e2 e3
    refine ⟨u',r',?_⟩
    rcases q with ⟨k,e⟩ | ⟨k,c,e,z⟩
    ·refine .inl ⟨k,?_⟩
     have : y ≠ x := fun e => hj (Ir hN e1 (e ▸ hi))
     simp [this,e]
    ·exact .inr ⟨k,c,e,z.sameBut hs (cne y c e)⟩
  ·obtain ⟨w',z⟩ := I.cell y c e
   exact ⟨w',z.sameBut hs (cne y c e)⟩
  ·obtain ⟨e,n,ne,nf,d⟩ := I.pin p hp
   exact ⟨(hs.2 p.1 ne).trans e,n,ne,nf,d⟩
 ·have hfn : X.fn x = true := by
   rcases hf with z | z
   ·exact z
   ·rw [z] at hk; cases hk
  obtain ⟨c,hc⟩ := I.ok.has x (.inl hk)
  obtain ⟨w',z⟩ := I.cell x c hc
  refine wpAny_storeName_cell I.ok.kind hk hc z (fun h' hc' hs => ?_)
  obtain ⟨oc,hoc,hocd⟩ := id z
  refine h { s with heap := h' } ⟨I.ok,I.os,I.bare,⟨fun b o e n hb hx => ?_,fun b o e n hb hx => ?_,I.base.free,fun b o e hx => ?_,I.base.tups,I.base.frzs,I.base.tbls⟩,⟨m,hn.sameBut hs (Ne.symm (cne x c hc)),fun j y v' e1 e2 e3 => ?_⟩,fun y c' e => ?_,I.free,I.freeC,fun p hp => ?_,tracked ⟨oc,hoc,I.freeC x c hc⟩ hs,by simpa using I.len⟩ ⟨c,hs,.inr hc⟩
  ·exact (hs.2 b (Nat.ne_of_lt (Nat.lt_of_lt_of_le (Heap.lt_size e) (I.ok.cab x c hfn hc)))).trans (I.base.keep b o e n hb hx)
  ·obtain ⟨sl,e1⟩ := I.base.slot b o e n hb hx
   exact ⟨sl,(hs.2 b (Nat.ne_of_lt (Nat.lt_of_lt_of_le (Heap.lt_size e) (I.ok.cab x c hfn hc)))).trans e1⟩
  ·obtain ⟨o',e1⟩ := I.base.there b o e hx
   exact ⟨o',(hs.2 b (Nat.ne_of_lt (Nat.lt_of_lt_of_le (Heap.lt_size e) (I.ok.cab x c hfn hc)))).trans e1⟩
  ·by_cases hj : j = i
   ·subst hj
    rw [hi] at e1; cases e1
    rw [List.getElem?_set_self hiσ] at e2
    cases e2
    exact ⟨u,r,.inr ⟨.inl hk,c,hc,hc'⟩⟩
   ·rw [List.getElem?_set_ne (Ne.symm hj)] at e2
    obtain ⟨u',r',q⟩ := hl j y v' e1 e2 e3
    refine ⟨u',r',?_⟩
    rcases q with q | ⟨k,c',e,z'⟩
    ·exact .inl q
    ·refine .inr ⟨k,c',e,z'.sameBut hs ?_⟩
     rintro rfl
     exact hj (Ir hN e1 (I.ok.inj _ _ _ e hc ▸ hi))
  ·by_cases hcc : c' = c
   ·subst hcc; exact ⟨_,hc'⟩
   ·obtain ⟨w2,z2⟩ := I.cell y c' e
    exact ⟨w2,z2.sameBut hs hcc⟩
  ·obtain ⟨e,n,ne,nf,d⟩ := I.pin p hp
   refine ⟨(hs.2 p.1 ?_).trans e,n,ne,nf,d⟩
   intro q
   rw [q,hoc] at e
   have q' : oc = p.2 := Option.some.inj e
   exact d w' (by rw [<- q']; exact hocd)
theorem Da {A : Around} {x : Str} (I : Ae X pins σ H s) (hN : X.N.Nodup) (hi : X.N[i]? = some x) (hx : C9 X.env.scope x) (r : Ay v u)
  (h : ∀ s',Ae X pins (σ.set i (some v)) H s' -> Q () s') (hf : X.fn x = true \/ X.env.scope.names.lookup x = some .local := by first | exact .inl rfl | exact .inr rfl | assumption) : wpAny M A (storeName X.env x u) Q E s :=
 GZ I hN hi hx r (fun s' I' _ => h s' I') hf
theorem Ae.call' {s' : Shared} (I : Ae X pins σ H s) (ho : s'.os = s.os) (u : Un (Bx X.stack) ch H H' s.heap s'.heap) (hok : HOk X.prog X.w H' s'.heap) (hg : AllBare s'.gens)
  (hch : ∀ b ∈ ch,(b ∈ X.ex \/ X.s₀.heap.objs.size <= b) /\ b ≠ X.env.locals /\ (∀ x c,X.env.cells.lookup x = some c -> c ≠ b) /\ ∀ p ∈ X.pn ++ pins,p.1 ≠ b) : Ae X pins σ H' s' := by
 obtain ⟨h',g',d',t',o'⟩ := s'
 have e : o' = s.os := ho
 subst e
 exact I.call (g' := g') (t' := t') (d' := d') u hok hg hch
end
abbrev XK := Value -> Option Addr -> Hp -> Prop
abbrev St := List (Option V)
abbrev VK := V -> Hp -> Prop
abbrev TE := St -> Hp -> VK -> Prop
abbrev TT := St -> Hp -> (Bool -> Hp -> Prop) -> Prop
abbrev TA := St -> Hp -> (List V -> Hp -> Prop) -> Prop
structure CS where
 nx : St -> Hp -> Prop
 rt : VK
 bk : St -> Hp -> Prop := fun _ _ => False
 ct : St -> Hp -> Prop := fun _ _ => False
abbrev TS := CS -> St -> Hp -> Prop
def EP (X : Cx) (pins : List (Addr × Obj)) (σ : St) (Q : VK) (u : Value) (s' : Shared) : Prop := ∃ v H',Ae X pins σ H' s' /\ Ay v u /\ Q v H'
def TP (X : Cx) (pins : List (Addr × Obj)) (σ : St) (Q : Bool -> Hp -> Prop) (b : Bool) (s' : Shared) : Prop := ∃ H',Ae X pins σ H' s' /\ Q b H'
def AP (X : Cx) (pins : List (Addr × Obj)) (σ : St) (Q : List V -> Hp -> Prop) (us : List Value) (s' : Shared) : Prop := ∃ vs H',Ae X pins σ H' s' /\ Ar vs us /\ Q vs H'
def SP (X : Cx) (pins : List (Addr × Obj)) (D : CS) (f : Flow) (s' : Shared) : Prop :=
 match f with
 | .next => ∃ σ' H',Ae X pins σ' H' s' /\ D.nx σ' H'
 | .brk => ∃ σ' H',Ae X pins σ' H' s' /\ D.bk σ' H'
 | .cont => ∃ σ' H',Ae X pins σ' H' s' /\ D.ct σ' H'
 | .ret u => ∃ v σ' H',Ae X pins σ' H' s' /\ Ay v u /\ D.rt v H'
def PE (X : Cx) (e : Expr) (t : TE) : Prop :=
 ∀ (pins : List (Addr × Obj)) (s : Shared) (σ : St) (H : Hp) (Q : VK),Ae X pins σ H s -> t σ H Q -> wpAny (model X.prog X.w) X.A (eval e X.env) (EP X pins σ Q) X.xe s
def PT (X : Cx) (e : Expr) (t : TT) : Prop :=
 ∀ (pins : List (Addr × Obj)) (s : Shared) (σ : St) (H : Hp) (Q : Bool -> Hp -> Prop),Ae X pins σ H s -> t σ H Q -> wpAny (model X.prog X.w) X.A (isTrue e X.env (eval e X.env)) (TP X pins σ Q) X.xe s
def PW (X : Cx) (e : Expr) (t : TT) : Prop :=
 ∀ (whole : Sem Value) (pins : List (Addr × Obj)) (s : Shared) (σ : St) (H : Hp) (Q : Bool -> Hp -> Prop),Ae X pins σ H s -> t σ H Q -> wpAny (model X.prog X.w) X.A (isTrue e X.env whole) (TP X pins σ Q) X.xe s
theorem PW.pt {X : Cx} {e : Expr} {t : TT} (h : PW X e t) : PT X e t := h _
def PA (X : Cx) (es : List Expr) (t : TA) : Prop :=
 ∀ (pos : Pos) (pins : List (Addr × Obj)) (s : Shared) (σ : St) (H : Hp) (Q : List V -> Hp -> Prop),Ae X pins σ H s -> t σ H Q -> wpAny (model X.prog X.w) X.A (spliced (backTo pos (starEach es X.env))) (AP X pins σ Q) X.xe s
def PS (X : Cx) (st : Stmt) (t : TS) : Prop :=
 ∀ (pins : List (Addr × Obj)) (s : Shared) (σ : St) (H : Hp) (D : CS),Ae X pins σ H s -> t D σ H -> wpAny (model X.prog X.w) X.A (exec st X.env) (SP X pins D) X.xe s
def PSs (X : Cx) (st : List Stmt) (t : TS) : Prop :=
 ∀ (pins : List (Addr × Obj)) (s : Shared) (σ : St) (H : Hp) (D : CS),Ae X pins σ H s -> t D σ H -> wpAny (model X.prog X.w) X.A (execs st X.env) (SP X pins D) X.xe s
theorem An {α : Type} {t : Sem α} {Q Q' : α -> Shared -> Prop} {A : Around} {s : Shared} (h : wpAny M A t Q E s) (hQ : ∀ a s,Q a s -> Q' a s) : wpAny M A t Q' E s := wpAny_mono h hQ fun _ _ x => x
end L2
namespace L2
open PySem PySem.Spec PyProof.Rows
variable {E Q : Value -> Shared -> Prop} {pins : List (Addr × Obj)} {s : Shared} {σ : St} {H : Hp} {u : Value} {v : V}
section
variable {X : Cx}
def Iu (i : Nat) : TE := fun σ H Q => ∃ v,σ[i]? = some (some v) /\ Q v H
def tC (v : V) : TE := fun _ H Q => Q v H
theorem Iv {i : Nat} {x : Str} {pos : Pos} (hN : X.N[i]? = some x) (hv : DV X.env.scope x) (hd : (x == ("__debug__" : Str)) = false := by decide) (hcd : (x == ("__classdict__" : Str)) = false := by decide) : PE X (.Name x pos) (Iu i) := by
 intro pins s σ H Q I h
 obtain ⟨v,e,h⟩ := h
 obtain ⟨m,hn,hl⟩ := I.loc
 obtain ⟨u,r,l⟩ := hl i x v hN e hv
 have fin : EP X pins σ Q u s := ⟨v,H,I,r,h⟩
 rcases l with ⟨hk,hm⟩ | ⟨hk,c,hc,hcell⟩
 ·exact wpAny_Name (wpAny_loadName_local I.ok.kind hk hn hm fin) hd
 ·rcases hk with hk | hk
  ·exact wpAny_Name (wpAny_loadName_cell I.ok.kind hk hc hcell fin) hd
  ·exact wpAny_Name (wpAny_loadName_free I.ok.kind hk hc hcell fin hcd) hd
theorem Af {i j pos} : PE X (.Constant (.int i) j pos) (tC (.int i)) := fun _ _ _ H _ I h => wpAny_Constant_int ⟨.int i,H,I.tok _,⟨_,rfl⟩,h⟩
theorem BC {b j pos} : PE X (.Constant (.bool b) j pos) (tC (.bl b)) := fun _ _ _ H _ I h => Constant_bool ⟨.bl b,H,I,rfl,h⟩
theorem Ck {j pos} : PE X (.Constant .none j pos) (tC .non) := fun _ _ _ H _ I h => Constant_none ⟨.non,H,I,rfl,h⟩
theorem BD {x j pos} : PE X (.Constant (.str x) j pos) (tC (.str x)) := fun _ _ _ H _ I h => Calls.Constant_str ⟨.str x,H,I.tok _,⟨_,rfl⟩,h⟩
def Gl (X : Cx) (x : Str) : Prop := X.env.kindOf x = some .globalImplicit
theorem Iw {x : Str} {pos : Pos} (I : Ae X pins σ H s) (hg : Gl X x) (hm : X.mg x = some u) (h : Q u s)
  (hd : (x == ("__debug__" : Str)) = false := by decide) : wpAny (model X.prog X.w) X.A (eval (.Name x pos) X.env) Q E s :=
 Calls.Name_function_global I.ok.kind hg (Calls.loadGlobal_global (by rw [I.ok.glob]; exact I.mod.glob.keeps I.bk) hm h) hd
theorem Cb {x : Str} {pos : Pos} (I : Ae X pins σ H s) (hg : Gl X x) (hm : X.mg x = none) (hv : bootBuiltins x = some u) (h : Q u s)
  (hn : x ≠ "__name__" := by decide) (hd : (x == ("__debug__" : Str)) = false := by decide) : wpAny (model X.prog X.w) X.A (eval (.Name x pos) X.env) Q E s := by
 obtain ⟨mb,h1,h2⟩ := I.mod.blt
 exact Calls.Name_function_global I.ok.kind hg (Calls.loadGlobal_builtin (by rw [I.ok.glob]; exact I.mod.glob.keeps I.bk) hm (by rw [I.ok.blt]; exact h1.keeps I.bk) ((h2 x hn).trans hv) h) hd
theorem Cq {x : Str} {pos : Pos} (hg : Gl X x) (hm : X.mg x = some u) (r : Ay v u) (hd : (x == ("__debug__" : Str)) = false := by decide) : PE X (.Name x pos) (tC v) :=
 fun _ _ _ H _ I h => Iw I hg hm ⟨v,H,I,r,h⟩ hd
theorem G0 {x : Str} {pos : Pos} (hg : Gl X x) (hm : X.mg x = none) (hv : bootBuiltins x = some u) (r : Ay v u) (hn : x ≠ "__name__" := by decide) (hd : (x == ("__debug__" : Str)) = false := by decide) : PE X (.Name x pos) (tC v) :=
 fun _ _ _ H _ I h => Cb I hg hm hv ⟨v,H,I,r,h⟩ hn hd
variable {a b : Expr} {ta tb : TE} {pos : Pos}
variable {tA tB' : TT} {rest : List Expr}
def Lx (t : TT) : TT := fun σ H Q => t σ H fun c H1 => Q (!c) H1
theorem G4 (ha : PT X a tA) : PW X (.BoolOp .And [a] pos) tA := by
 intro wh pins s σ H Q I h
 refine isTrue_and (An (ha pins s σ H Q I h) fun c s1 e => ?_)
 cases c with
 | true => exact isTrue_and_nil e
 | false => exact e
theorem Fl (ha : PT X a tA) : PW X (.BoolOp .Or [a] pos) tA := by
 intro wh pins s σ H Q I h
 refine isTrue_or (An (ha pins s σ H Q I h) fun c s1 e => ?_)
 cases c with
 | false => exact isTrue_or_nil e
 | true => exact e
theorem BT (ha : PT X a tA) : PT X (.UnaryOp .Not a pos) (Lx tA) := by
 intro pins s σ H Q I h
 exact isTrue_not (ha pins s σ H (fun c H1 => Q (!c) H1) I h)
theorem Bl {op} {t : TE} (h : PE X a t) : PE X (.BoolOp op [a] pos) t := fun pins s σ H Q I hw => BoolOp_one (h pins s σ H Q I hw)
end
end L2
namespace L2
open PySem PySem.Spec PyProof.Rows
variable {i : Nat} {P : Program} {tg : Expr}
def Am (K : PySem.W.Frag) (H : Hp) (a : Addr) (xs : List V) : Prop :=
 Rd H a (.lst xs) \/
  ∃ (o : Obj) (its : Array Value) (n : Nat),K.lookup a = some o /\ o.cls = .type "list" /\ o.dict = none /\ o.data = .seq its n /\ its.size <= sizeLine /\ Ar xs its.toList
def Ad (K : PySem.W.Frag) (H : Hp) (a : Addr) (xs : List V) : Prop :=
 Rd H a (.tup xs) \/
  ∃ (o : Obj) (its : Array Value) (n : Nat),K.lookup a = some o /\ o.cls = .type "tuple" /\ o.data = .seq its n /\ its.size <= sizeLine /\ Ar xs its.toList
def Ly : Value -> Option V
 | .none => some .non
 | .bool b => some (.bl b)
 | .int i _ => some (.int i)
 | .str x _ => some (.str x)
 | .bytes b _ => some (.byt b)
 | .float b _ => some (.flt b)
 | .ref a => some (.ref a)
 | .type n => some (.ty n)
 | _ => none
theorem Ay.abs {x : V} {u : Value} (r : Ay x u) : Ly u = some x := by
 cases x with
 | non => cases r; rfl
 | bl _ => cases r; rfl
 | int _ => obtain ⟨t,rfl⟩ := r; rfl
 | str _ => obtain ⟨t,rfl⟩ := r; rfl
 | byt _ => obtain ⟨t,rfl⟩ := r; rfl
 | flt _ => obtain ⟨t,rfl⟩ := r; rfl
 | ref _ => cases r; rfl
 | ty _ => cases r; rfl
theorem Ay.inj {x y : V} {u : Value} (r : Ay x u) (q : Ay y u) : x = y := Option.some.inj (r.abs.symm.trans q.abs)
theorem Ar.inj : ∀ {xs ys : List V} {us : List Value},Ar xs us -> Ar ys us -> xs = ys
 | _,_,_,.nil,.nil => rfl
 | _,_,_,.cons r t,.cons r' t' => by rw [r.inj r',Ar.inj t t']
section
variable {X : Cx} {pins : List (Addr × Obj)} {σ : St} {H : Hp} {s : Shared} {a : Addr} {xs ys : List V}
theorem Am.of {K : PySem.W.Frag} (h : H a = some (.lst xs)) : Am K H a xs := .inl (.inl h)
theorem Ad.of {K : PySem.W.Frag} (h : H a = some (.tup xs)) : Ad K H a xs := .inl (.inl h)
theorem Ae.list (I : Ae X pins σ H s) (h : Am X.K H a xs) : ∃ its : List Value,Ar xs its /\ PlainL s.heap a its.toArray /\ xs.length <= sizeLine := by
 rcases h with h | ⟨o,its,n,hk,hc,hd,hs,hz,r⟩
 ·obtain ⟨z,its,n,r,e⟩ := h.ok I.hok
  exact ⟨its,r,⟨_,n,e,rfl,rfl,rfl⟩,z⟩
 ·refine ⟨its.toList,r,⟨o,n,I.kIn a o hk,hc,hd,by simpa using hs⟩,?_⟩
  have e := r.length
  simp only [Array.length_toList] at e
  omega
theorem Ae.tuple (I : Ae X pins σ H s) (h : Ad X.K H a xs) : ∃ its : List Value,Ar xs its /\ IsTup s.heap a its.toArray /\ xs.length <= sizeLine := by
 rcases h with h | ⟨o,its,n,hk,hc,hs,hz,r⟩
 ·obtain ⟨z,its,r,p⟩ := h.ok I.hok
  exact ⟨its,r,p,z⟩
 ·refine ⟨its.toList,r,⟨o,I.kIn a o hk,hc,n,by simpa using hs⟩,?_⟩
  have e := r.length
  simp only [Array.length_toList] at e
  omega
theorem Ae.list_inj (I : Ae X pins σ H s) (h : Am X.K H a xs) (h' : Am X.K H a ys) : xs = ys := by
 obtain ⟨its,r,⟨o,n,e,_,_,d⟩,_⟩ := I.list h
 obtain ⟨its',r',⟨o',n',e',_,_,d'⟩,_⟩ := I.list h'
 rw [e] at e'; cases e'
 rw [d] at d'
 injection d' with d1 _
 have : its = its' := by simpa using congrArg Array.toList d1
 subst this
 exact r.inj r'
theorem Ae.tuple_inj (I : Ae X pins σ H s) (h : Ad X.K H a xs) (h' : Ad X.K H a ys) : xs = ys := by
 obtain ⟨its,r,⟨o,e,_,n,d⟩,_⟩ := I.tuple h
 obtain ⟨its',r',⟨o',e',_,n',d'⟩,_⟩ := I.tuple h'
 rw [e] at e'; cases e'
 rw [d] at d'
 injection d' with d1 _
 have : its = its' := by simpa using congrArg Array.toList d1
 subst this
 exact r.inj r'
end
abbrev Cx.wish (X : Cx) (E : Value -> Shared -> Prop) : Cx := { X with xe := E }
abbrev Cx.nox (X : Cx) : Cx := X.wish fun _ _ => False
theorem Cx.Ok.wish {X : Cx} (ok : X.Ok) (E : Value -> Shared -> Prop) : (X.wish E).Ok :=
 ⟨ok.mod,ok.kind,ok.glob,ok.blt,ok.above,ok.inj,ok.has,ok.cab,ok.hd,ok.frames,ok.stk,ok.exf,ok.bs,ok.bsz,ok.noex,ok.exfs,ok.funs,ok.frf⟩
theorem Cx.Ok.unwish {X : Cx} {E : Value -> Shared -> Prop} (ok : (X.wish E).Ok) : X.Ok :=
 ⟨ok.mod,ok.kind,ok.glob,ok.blt,ok.above,ok.inj,ok.has,ok.cab,ok.hd,ok.frames,ok.stk,ok.exf,ok.bs,ok.bsz,ok.noex,ok.exfs,ok.funs,ok.frf⟩
section
variable {X : Cx} {pins : List (Addr × Obj)} {σ : St} {H : Hp} {s : Shared} {E : Value -> Shared -> Prop}
theorem Ae.wish (I : Ae X pins σ H s) (E : Value -> Shared -> Prop) : Ae (X.wish E) pins σ H s := ⟨I.ok.wish E,I.os,I.bare,I.base,I.loc,I.cell,I.free,I.freeC,I.pin,I.hok,I.len⟩
theorem Ae.unwish (I : Ae (X.wish E) pins σ H s) : Ae X pins σ H s := ⟨I.ok.unwish,I.os,I.bare,I.base,I.loc,I.cell,I.free,I.freeC,I.pin,I.hok,I.len⟩
theorem SP.unwish {D : CS} {f : Flow} {s' : Shared} (h : SP (X.wish E) pins D f s') : SP X pins D f s' := by
 cases f with
 | next => obtain ⟨σ',H',I,q⟩ := h; exact ⟨σ',H',I.unwish,q⟩
 | brk => obtain ⟨σ',H',I,q⟩ := h; exact ⟨σ',H',I.unwish,q⟩
 | cont => obtain ⟨σ',H',I,q⟩ := h; exact ⟨σ',H',I.unwish,q⟩
 | ret u => obtain ⟨v,σ',H',I,r,q⟩ := h; exact ⟨v,σ',H',I.unwish,r,q⟩
theorem PSs.nox {st : List Stmt} {t : TS} (h : PSs X.nox st t) : PSs X st t := fun pins s σ H D I hw =>
 wpAny_mono (h pins s σ H D (I.wish _) hw) (fun _ _ q => q.unwish) fun _ _ z => False.elim z
end
section
variable {X : Cx} {st : Stmt} {rest : List Stmt} {t u : TS} {e : Expr} {te : TE} {pos : Pos}
def Lz : TS := fun D σ H => D.nx σ H
def LA (t u : TS) : TS := fun D σ H => t { D with nx := u D } σ H
theorem AY : PSs X [] Lz := fun _ _ σ H _ I h => wpAny_execs_nil ⟨σ,H,I,h⟩
theorem Aj (h1 : PS X st t) (h2 : PSs X rest u) : PSs X (st :: rest) (LA t u) := by
 intro pins s σ H D I h
 refine wpAny_execs_cons (An (h1 pins s σ H { D with nx := u D } I h) fun f s1 q => ?_)
 cases f with
 | next =>
  obtain ⟨σ',H',I',q⟩ := q
  exact h2 pins s1 σ' H' D I' q
 | ret v => exact q
 | brk => exact q
 | cont => exact q
theorem Al (h1 : PS X st t) : PSs X [st] t := by
 intro pins s σ H D I h
 refine wpAny_execs_cons (An (h1 pins s σ H D I h) fun f s1 q => ?_)
 cases f with
 | next => exact wpAny_execs_nil q
 | ret v => exact q
 | brk => exact q
 | cont => exact q
theorem Ae.quiet {pins : List (Addr × Obj)} {σ : St} {H : Hp} {s : Shared} (I : Ae X pins σ H s) : interactive X.env = false := by simp [interactive,I.ok.kind]
def LB (te : TE) : TS := fun D σ H => te σ H fun _ H1 => D.nx σ H1
theorem Cc (he : PE X e te) (hs : swapsWith e none pos.line X.env = pure false := by rfl) : PS X (.Expr e pos) (LB te) := by
 intro pins s σ H D I h
 exact wpAny_Expr_any (An (he pins s σ H _ I h) fun v s1 ⟨x,H1,I1,r1,q1⟩ => ⟨σ,H1,I1,q1⟩) I.quiet hs
def LC (te : TE) : TS := fun D σ H => te σ H D.rt
theorem Ao (he : PE X e te) : PS X (.Return (some e) pos) (LC te) := by
 intro pins s σ H D I h
 exact wpAny_Return_some (An (he pins s σ H _ I h) fun v s1 ⟨x,H1,I1,r1,q1⟩ => ⟨x,σ,H1,I1,r1,q1⟩)
def LD : TS := fun _ _ _ => False
theorem Fm : PS X st LD := fun _ _ _ _ _ _ h => h.elim
end
abbrev TG := V -> St -> Hp -> (St -> Hp -> Prop) -> Prop
abbrev Db := List V -> St -> Hp -> (St -> Hp -> Prop) -> Prop
def PG (X : Cx) (target : Expr) (t : TG) : Prop :=
 ∀ (pins : List (Addr × Obj)) (s : Shared) (σ : St) (H : Hp) (v : V) (u : Value) (Q : St -> Hp -> Prop),Ae X pins σ H s -> Ay v u -> t v σ H Q ->
  wpAny (model X.prog X.w) X.A (assign target X.env u) (fun _ s' => ∃ σ' H',Ae X pins σ' H' s' /\ Q σ' H') X.xe s
def EA (X : Cx) (ts : List Expr) (t : Db) : Prop :=
 ∀ (pins : List (Addr × Obj)) (s : Shared) (σ : St) (H : Hp) (vs : List V) (us : List Value) (Q : St -> Hp -> Prop),Ae X pins σ H s -> Ar vs us -> t vs σ H Q ->
  wpAny (model X.prog X.w) X.A (assignInOrder ((assignEach ts X.env).map (·.2)) us) (fun _ s' => ∃ σ' H',Ae X pins σ' H' s' /\ Q σ' H') X.xe s
abbrev G5 := V -> V -> V -> Hp -> (Hp -> Prop) -> Prop
def Ix (X : Cx) (t : G5) : Prop :=
 ∀ (pins : List (Addr × Obj)) (s : Shared) (σ : St) (H : Hp) (o i v : V) (ov iv u : Value) (Q : Hp -> Prop),Ae X pins σ H s -> Ay o ov -> Ay i iv -> Ay v u -> t o i v H Q ->
  wpAny (model X.prog X.w) X.A (setItem ov iv u) (fun _ s' => ∃ H',Ae X pins σ H' s' /\ Q H') X.xe s
abbrev Fo := V -> V -> Hp -> VK -> Prop
def G6 (X : Cx) (op : Operator) (t : Fo) : Prop :=
 ∀ (pins : List (Addr × Obj)) (s : Shared) (σ : St) (H : Hp) (x y : V) (v u : Value) (Q : VK),Ae X pins σ H s -> Ay x v -> Ay y u -> t x y H Q ->
  wpAny (model X.prog X.w) X.A (inplaceOp op v u) (EP X pins σ Q) X.xe s
section
variable {X : Cx} {pos : Pos}
def EB (i : Nat) : TG := fun v σ H Q => Q (σ.set i (some v)) H
theorem LE {x : Str} (hN : X.N.Nodup) (hi : X.N[i]? = some x) (hx : C9 X.env.scope x) (hf : X.fn x = true \/ X.env.scope.names.lookup x = some .local := by first | exact .inl rfl | exact .inr rfl | assumption) : PG X (.Name x pos) (EB i) := by
 intro pins s σ H v u Q I r h
 exact wpAny_assign_Name (Da I hN hi hx r (fun s' I' => ⟨_,H,I',h⟩) hf)
def LF : Db := fun vs σ H Q => vs = [] /\ Q σ H
def LG (t : TG) (u : Db) : Db := fun vs σ H Q => ∃ v r,vs = v :: r /\ t v σ H fun σ' H' => u r σ' H' Q
theorem AC : EA X [] LF := by
 intro pins s σ H vs us Q I r h
 obtain ⟨e,h⟩ := h
 subst e
 cases r
 exact assignInOrder_nil ⟨σ,H,I,h⟩
theorem Ah {e : Expr} {es : List Expr} {t : TG} {u : Db} (h1 : PG X e t) (h2 : EA X es u)
  (hs : (assignEach (e :: es) X.env).map (·.2) = assign e X.env :: (assignEach es X.env).map (·.2) := by rfl) : EA X (e :: es) (LG t u) := by
 intro pins s σ H vs us Q I r h
 obtain ⟨v,vr,e1,h⟩ := h
 subst e1
 cases r with
 | cons r rr =>
  rw [hs]
  refine assignInOrder_cons (An (h1 pins s σ H _ _ _ I r h) fun _ s1 ⟨σ1,H1,I1,q1⟩ => ?_)
  exact h2 pins s1 σ1 H1 _ _ Q I1 rr q1
def Iy (K : PySem.W.Frag) (n : Nat) (t : Db) : TG := fun v σ H Q => ∃ a xs,v = .ref a /\ Ad K H a xs /\ xs.length = n /\ t xs σ H Q
theorem LH {es : List Expr} {k : Nat} {t : Db} {n : Nat} (hc : X.calm = true) (h : EA X es t)
  (hn : (assignEach es X.env).length = n := by rfl) (hst : (assignEach es X.env).findIdx? (·.1) = none := by rfl) : PG X (.Tuple es k pos) (Iy X.K n t) := by
 intro pins s σ H v u Q I r hw
 obtain ⟨a,xs,e1,hq,hl,hw⟩ := hw
 subst e1
 cases r
 obtain ⟨its,rv,ht,hz⟩ := I.tuple hq
 refine assign_Tuple_tuple (I.ok.hd hc) ht (by simp [hn,<- hl,rv.length]) hst fun h' hx => ?_
 have I1 : Ae X pins σ H { s with heap := h' } := I.kept (t' := s.toks) fun b o e => hx b o (Nat.ne_of_lt (Heap.lt_size e)) e
 exact h pins _ σ H xs _ Q I1 (by simpa using rv) hw
def LI (to ti : TE) (t : G5) : TG := fun v σ H Q => to σ H fun o H1 => ti σ H1 fun i H2 => t o i v H2 fun H3 => Q σ H3
theorem Iz {o i : Expr} {to ti : TE} {t : G5} (ho : PE X o to) (hi : PE X i ti) (hs : Ix X t)
  (ha : ∀ v, assign (.Subscript o i pos) X.env v = (do
   let ov <- holding [v] (eval o X.env)
   let iv <- holding [v,ov] (eval i X.env)
   standAt pos
   holding [v,ov,iv] (setItem ov iv v)
   release [v,ov,iv] []) := by intro _; rfl) : PG X (.Subscript o i pos) (LI to ti t) := by
 intro pins s σ H v u Q I r h
 rw [ha]
 refine wpAny_bind (wpAny_holding (An (ho pins s σ H _ I h) fun ov s1 ⟨x,H1,I1,r1,q1⟩ => ?_))
 refine wpAny_bind (wpAny_holding (An (hi pins s1 σ H1 _ I1 q1) fun iv s2 ⟨y,H2,I2,r2,q2⟩ => ?_))
 refine wpAny_bind (wpAny_standAt (wpAny_bind (wpAny_holding (An (hs pins s2 σ H2 x y v ov iv u _ I2 r1 r2 r q2) fun _ s3 ⟨H3,I3,q3⟩ => ?_))))
 exact wpAny_release ⟨σ,H3,I3,q3⟩
def IA (te : TE) (g : TG) : TS := fun D σ H => te σ H fun x H1 => g x σ H1 D.nx
theorem A7 {tg e : Expr} {te : TE} {g : TG} (he : PE X e te) (hg : PG X tg g) (hs : swapsWithSole [tg] e pos.line X.env = pure false := by rfl) (hw : swappedStores [tg] e X.env = pure none := by rfl)
  (h1 : (assignEach [tg] X.env).map (·.2) = [assign tg X.env] := by rfl) : PS X (.Assign [tg] e pos) (IA te g) := by
 intro pins s σ H D I h
 refine wpAny_Assign_stores (An (he pins s σ H _ I h) fun v s1 ⟨x,H1,I1,r1,q1⟩ => ?_) hs hw
 rw [h1]
 exact An (hg pins s1 σ H1 x v _ I1 r1 q1) fun _ s2 q => q
theorem AE {i : Nat} {x : Str} {e : Expr} {te : TE} {pos' : Pos} (hN : X.N.Nodup) (hi : X.N[i]? = some x) (hx : C9 X.env.scope x) (he : PE X e te) (hs : swapsWith e (some (.Name x pos')) pos.line X.env = pure false := by rfl) (hf : X.fn x = true \/ X.env.scope.names.lookup x = some .local := by first | exact .inl rfl | exact .inr rfl | assumption) :
  PS X (.Assign [.Name x pos'] e pos) (IA te (EB i)) := by
 intro pins s σ H D I h
 refine wpAny_Assign_Name (An (he pins s σ H _ I h) fun v s1 ⟨y,H1,I1,r1,q1⟩ => ?_) hs
 exact Da I1 hN hi hx r1 (fun s2 I2 => ⟨_,H1,I2,q1⟩) hf
def LJ (i j : Nat) (ta : TA) : TS := fun D σ H => ta σ H fun vs H1 => ∃ v w,vs = [v,w] /\ D.nx ((σ.set i (some v)).set j (some w)) H1
theorem LK {j : Nat} {x y : Str} {a b : Expr} {ta : TA} {px py pt : Pos} {kt k2 pt2} (hc : X.calm = true) (hN : X.N.Nodup) (hi : X.N[i]? = some x) (hj : X.N[j]? = some y) (hij : i ≠ j)
  (hx : X.env.scope.names.lookup x = some .local) (hy : X.env.scope.names.lookup y = some .local) (ha : PA X [a,b] ta)
  (hw : swappedStores [.Tuple [.Name x px,.Name y py] kt pt] (.Tuple [a,b] k2 pt2) X.env = pure (some [x,y]))
  (hs : swapsWithSole [.Tuple [.Name x px,.Name y py] kt pt] (.Tuple [a,b] k2 pt2) pos.line X.env = pure false := by rfl) :
  PS X (.Assign [.Tuple [.Name x px,.Name y py] kt pt] (.Tuple [a,b] k2 pt2) pos) (LJ i j ta) := by
 intro pins s σ H D I h
 rw [exec_Assign_arm]
 refine wpAny_bind (wpAny_standAt ?_)
 rw [hs]
 refine wpAny_bind (wpAny_pure ?_)
 rw [if_neg (by decide)]
 refine wpAny_bind (Tuple_ (An (ha _ pins s σ H _ I h) fun us s1 ⟨vs,H1,I1,r1,q1⟩ => ?_))
 obtain ⟨v,w,e1,q1⟩ := q1
 subst e1
 obtain ⟨u1,u2,rfl,rv,rw'⟩ : ∃ u1 u2,us = [u1,u2] /\ Ay v u1 /\ Ay w u2 := by
  cases r1 with
  | cons p q =>
   cases q with
   | cons p' q' =>
    cases q'
    exact ⟨_,_,rfl,p,p'⟩
 refine wpAny_newObj_type ?_ (by show 2 <= sizeLine; decide)
 have I2 : Ae X pins σ H1 { s1 with heap := s1.heap.push { cls := .type "tuple",data := .seq [u1,u2].toArray } } := I1.kept (t' := s1.toks) fun b o e => Heap.get?_push_of_some _ e
 rw [hw]
 refine wpAny_bind (wpAny_pure ?_)
 show wpAny (model X.prog X.w) X.A (do rule "assign.swapped-stores"; let items <- unpackItems (.ref s1.heap.objs.size) 2 none; assignInOrder [fun v => bindName X.env y v,fun v => bindName X.env x v] items.reverse; pure Flow.next) _ _ _
 refine wpAny_bind (wpAny_rule (wpAny_bind (unpackItems_tuple (items := #[u1,u2]) (I.ok.hd hc) (IsTup.new s1.heap _) fun h' hx' => ?_)))
 have I3 := I2.kept (h' := h') (t' := s1.toks) fun b o e => hx' b o (Nat.ne_of_lt (Heap.lt_size e)) e
 show wpAny _ _ (assignInOrder [fun v => bindName X.env y v,fun v => bindName X.env x v] [u2,u1] >>= fun _ => pure Flow.next) _ _ _
 refine wpAny_bind (assignInOrder_cons (wpAny_bindName (Da I3 hN hj (.inl hy) rw' (fun s2 I4 => ?_) (.inr hy))))
 refine assignInOrder_cons (wpAny_bindName (Da I4 hN hi (.inl hx) rv (fun s3 I5 => assignInOrder_nil (wpAny_pure ?_)) (.inr hx)))
 rw [List.set_comm _ _ (Ne.symm hij)] at I5
 exact ⟨_,H1,I5,q1⟩
def LL (i : Nat) (te : TE) (ti : Fo) : TS := fun D σ H => ∃ x,σ[i]? = some (some x) /\ te σ H fun y H1 => ti x y H1 fun z H2 => D.nx (σ.set i (some z)) H2
theorem IB {x : Str} {e : Expr} {te : TE} {op : Operator} {ti : Fo} {pos' : Pos} (hN : X.N.Nodup) (hi : X.N[i]? = some x) (hx : C9 X.env.scope x) (he : PE X e te) (ho : G6 X op ti) (hf : X.fn x = true \/ X.env.scope.names.lookup x = some .local := by first | exact .inl rfl | exact .inr rfl | assumption) :
  PS X (.AugAssign (.Name x pos') op e pos) (LL i te ti) := by
 intro pins s σ H D I h
 obtain ⟨v,e1,h⟩ := h
 obtain ⟨m,hn,hl⟩ := I.loc
 have vis : DV X.env.scope x := by rcases hx with k | k; exact .inl k; exact .inr (.inl k)
 obtain ⟨u,r,l⟩ := hl i x v hi e1 vis
 refine wpAny_AugAssign_Name ?_
 have go : wpAny (model X.prog X.w) X.A (eval e X.env) (fun w s₂ => wpAny (model X.prog X.w) X.A (inplaceOp op u w) (fun r s₃ => wpAny (model X.prog X.w) X.A (storeName X.env x r) (fun _ => SP X pins D .next) X.xe s₃) X.xe s₂) X.xe s := by
  refine An (he pins s σ H _ I h) fun w s1 ⟨y,H1,I1,r1,q1⟩ => ?_
  refine An (ho pins s1 σ H1 v y u w _ I1 r r1 q1) fun z s2 ⟨zv,H2,I2,r2,q2⟩ => ?_
  exact Da I2 hN hi hx r2 (fun s3 I3 => ⟨_,H2,I3,q2⟩) hf
 rcases l with ⟨hk,hm⟩ | ⟨hk,c,hc,hcell⟩
 ·exact wpAny_loadName_local I.ok.kind hk hn hm go
 ·rcases hk with hk | hk
  ·exact wpAny_loadName_cell I.ok.kind hk hc hcell go
  ·rcases hx with k | k
   ·have : X.env.scope.names.lookup x = some .free := hk
    rw [k] at this; cases this
   ·have : X.env.scope.names.lookup x = some .free := hk
    rw [k] at this; cases this
def IC (f : Int -> Int -> Int) : Fo := fun x y H Q => ∃ i j,x = .int i /\ y = .int j /\ Q (.int (f i j)) H
theorem LM : G6 X .Add (IC fun i j => i + j) := by
 intro pins s σ H x y v u Q I r1 r2 h
 obtain ⟨i,j,e1,e2,q⟩ := h
 subst e1; subst e2
 obtain ⟨t,rfl⟩ := r1
 obtain ⟨t',rfl⟩ := r2
 exact iadd_int ⟨.int _,H,I.tok _,⟨_,rfl⟩,q⟩
theorem LN : G6 X .Sub (IC fun i j => i - j) := by
 intro pins s σ H x y v u Q I r1 r2 h
 obtain ⟨i,j,e1,e2,q⟩ := h
 subst e1; subst e2
 obtain ⟨t,rfl⟩ := r1
 obtain ⟨t',rfl⟩ := r2
 exact isub_int ⟨.int _,H,I.tok _,⟨_,rfl⟩,q⟩
end
section
variable {X : Cx} {pos : Pos}
end
structure It where
 go : Nat -> Hp -> Prop
 yld : Nat -> Hp -> V -> Hp -> Prop
 stop : Nat -> Hp -> Prop
def Bq (X : Cx) (pins : List (Addr × Obj)) (H : Hp) (b : Addr) : Prop :=
 H b = none /\ b ≠ X.env.locals /\ b ∉ X.fs /\ (b ∈ X.ex \/ X.s₀.heap.objs.size <= b) /\ (∀ x c,X.env.cells.lookup x = some c -> c ≠ b) /\ ∀ p ∈ X.pn ++ pins,p.1 ≠ b
theorem Ae.fpOk {X : Cx} {pins : List (Addr × Obj)} {σ : St} {H H' : Hp} {s : Shared} {b : Addr} (I : Ae X pins σ H s) (hb : s.heap.objs.size <= b) (hn : H' b = none) : Bq X pins H' b := by
 refine ⟨hn,Nat.ne_of_gt (Nat.lt_of_lt_of_le I.lt hb),I.nofs hb,.inr (Nat.le_trans I.sz hb),fun x c e z => ?_,fun p hp z => ?_⟩
 ·obtain ⟨v,q⟩ := I.cell x c e
  exact absurd (Nat.lt_of_lt_of_le q.lt (by rw [z]; exact hb)) (Nat.lt_irrefl _)
 ·exact absurd (Nat.lt_of_lt_of_le (Heap.lt_size (I.pin p hp).1) (by rw [z]; exact hb)) (Nat.lt_irrefl _)
structure Cr (P : Program) (w : World) (K : PySem.W.Frag) (tg : Expr) (J : It) (fp : List Addr) (it : Addr) (tn : Nat -> Heap -> Prop) : Prop where
 mem : it ∈ fp
 obj : ∀ i h,tn i h -> ∀ b ∈ fp,∃ o,h.get? b = some o /\ ∀ v,o.data ≠ .cell v
 keep : ∀ i h h',tn i h -> (∀ b ∈ fp,∀ o,h.get? b = some o -> h'.get? b = some o) -> tn i h'
 item : ∀ (X : Cx),X.prog = P -> X.w = w -> X.K = K -> X.calm = true -> ∀ (i : Nat) (pins : List (Addr × Obj)) (s : Shared) (σ : St) (H : Hp) (E : Value -> Shared -> Prop),Ae X pins σ H s -> (∀ b ∈ fp,Bq X pins H b) -> tn i s.heap -> J.go i H ->
  wpAny (model P w) X.A (pyNext (.ref it)) (fun r s1 => ∃ u,r = some u /\
   wpAny (model P w) X.A (letOwnedTupleGo tg (.ref it) u) (fun _ s2 => ∃ x H',Ae X pins σ H' s2 /\ Ay x u /\ J.yld i H x H' /\ tn (i + 1) s2.heap /\ ∀ b ∈ fp,H' b = none) E s1) E s
 done : ∀ (X : Cx),X.prog = P -> X.w = w -> X.K = K -> X.calm = true -> ∀ (i : Nat) (pins : List (Addr × Obj)) (s : Shared) (σ : St) (H : Hp) (E : Value -> Shared -> Prop),Ae X pins σ H s -> (∀ b ∈ fp,Bq X pins H b) -> tn i s.heap -> J.stop i H ->
  wpAny (model P w) X.A (pyNext (.ref it)) (fun r s1 => r = none /\ Ae X pins σ H s1) E s
 self : ∀ (A : Around) (i : Nat) (s : Shared) (Q : Value -> Shared -> Prop) (E : Value -> Shared -> Prop),tn i s.heap -> Q (.ref it) s -> wpAny (model P w) A (pyIter (.ref it)) Q E s
abbrev TI := St -> Hp -> (It -> Hp -> Prop) -> Prop
def ID (X : Cx) (pins : List (Addr × Obj)) (σ : St) (tg : Expr) (R : It -> Hp -> Prop) (itv : Value) (s2 : Shared) : Prop :=
 ∃ (it : Addr) (fp : List Addr) (tn : Nat -> Heap -> Prop) (J : It) (H' : Hp),itv = .ref it /\ Ae X pins σ H' s2 /\ Cr X.prog X.w X.K tg J fp it tn /\ tn 0 s2.heap /\ (∀ b ∈ fp,Bq X pins H' b) /\ R J H'
def PI (X : Cx) (tg iter : Expr) (wi : TI) : Prop :=
 ∀ (pins : List (Addr × Obj)) (s : Shared) (σ : St) (H : Hp) (R : It -> Hp -> Prop),Ae X pins σ H s -> wi σ H R ->
  wpAny (model X.prog X.w) X.A (eval iter X.env) (fun v s1 => wpAny (model X.prog X.w) X.A (pyIter v) (ID X pins σ tg R) X.xe s1) X.xe s
theorem Fp {M : Model} {A : Around} {E : Value -> Shared -> Prop} {s : Shared} {tg : Expr} {it : Addr} {u : Value} {o : Obj} {n : String} {vs : Array Value} {Q : Unit -> Shared -> Prop} (ho : s.heap.get? it = some o) (hc : o.cls = .type n) (hd : o.data = .fields vs)
    (hn : ["enumerate","zip","dict_itemiterator","dict_reverseitemiterator","odict_iterator","itertools.zip_longest","itertools.pairwise"].contains n = false) (hQ : Q () s) : wpAny M A (letOwnedTupleGo tg (.ref it) u) Q E s := by
  unfold letOwnedTupleGo
  cases tg <;> first
    | exact wpAny_pure hQ
    | (cases u <;> first
        | exact wpAny_pure hQ
        | (refine wpAny_bind (wpAny_load ho ?_)
           rw [hc,hd]
           show wpAny M A (if (["enumerate","zip","dict_itemiterator","dict_reverseitemiterator","odict_iterator","itertools.zip_longest","itertools.pairwise"].contains n && vs[0]? == some (rawInt _)) = true then _ else _) Q E s
           rw [if_neg (by intro h; rw [hn,Bool.false_and] at h; cases h)]
           exact wpAny_pure hQ))
def Dc (K : PySem.W.Frag) (a : Addr) : It :=
 ⟨fun i H => ∃ xs x,Am K H a xs /\ xs[i]? = some x,fun i H x H' => H' = H /\ ∀ xs,Am K H a xs -> xs[i]? = some x,fun i H => ∃ xs,Am K H a xs /\ xs.length <= i⟩
def Dw (K : PySem.W.Frag) (a : Addr) : It :=
 ⟨fun i H => ∃ xs x,Ad K H a xs /\ xs[i]? = some x,fun i H x H' => H' = H /\ ∀ xs,Ad K H a xs -> xs[i]? = some x,fun i H => ∃ xs,Ad K H a xs /\ xs.length <= i⟩
def CC (lo : Int) (n : Nat) : It := ⟨fun i _ => i < n,fun i H x H' => H' = H /\ x = .int (lo + i),fun i _ => n <= i⟩
theorem LO {w : World} {K : PySem.W.Frag} (a it : Addr) : Cr P w K tg (Dc K a) [it] it (fun i h => h.IsListIter it a i) where
 mem := by simp
 obj := fun i h st b hb => by
  have e : b = it := by simpa using hb
  subst e
  obtain ⟨o,e,c,d⟩ := st
  exact ⟨o,e,fun v z => by rw [d] at z; cases z⟩
 keep := fun i h h' st k => st.at fun o e => k it (by simp) o e
 item := by
  intro X hP hw hK hc i pins s σ H E I hf st hg
  subst hP hw hK
  obtain ⟨xs,x,hq,hx⟩ := hg
  obtain ⟨its,rv,p,hz⟩ := I.list hq
  obtain ⟨u,hu,ru⟩ := rv.get hx
  obtain ⟨f0,f1,f2,f3,f4,f5⟩ := hf it (by simp)
  refine wpAny_pyNext_list_item st p.isList (x := u) (by simpa using hu) fun h' st' sb => ?_
  have I1 : Ae X pins σ H { s with heap := h' } := I.turned (t' := s.toks) (fun b o hb e => (sb.2 b hb).trans e) f0 f1 f3 f4 f5
  obtain ⟨o,e,c,d⟩ := id st'
  exact ⟨u,rfl,Fp (s := { s with heap := h' }) e c d (by decide) ⟨x,H,I1,ru,⟨rfl,fun ys hy => by rw [I.list_inj hy hq]; exact hx⟩,st',fun b hb => (hf b hb).1⟩⟩
 done := by
  intro X hP hw hK hc i pins s σ H E I hf st hg
  subst hP hw hK
  obtain ⟨xs,hq,hx⟩ := hg
  obtain ⟨its,rv,p,hz⟩ := I.list hq
  obtain ⟨f0,f1,f2,f3,f4,f5⟩ := hf it (by simp)
  have hl := rv.length
  exact wpAny_pyNext_list_end (I.ok.hd hc) st p.isList (by simp; omega) fun h' eb => ⟨rfl,I.turned (t' := s.toks) (fun b o hb e => eb b o hb e) f0 f1 f3 f4 f5⟩
 self := fun _ _ _ _ _ st h => wpAny_pyIter_listiter st h
theorem LP {w : World} {K : PySem.W.Frag} (a it : Addr) : Cr P w K tg (Dw K a) [it] it (fun i h => h.IsTupleIter it a i) where
 mem := by simp
 obj := fun i h st b hb => by
  have e : b = it := by simpa using hb
  subst e
  obtain ⟨o,e,c,d⟩ := st
  exact ⟨o,e,fun v z => by rw [d] at z; cases z⟩
 keep := fun i h h' st k => st.at fun o e => k it (by simp) o e
 item := by
  intro X hP hw hK hc i pins s σ H E I hf st hg
  subst hP hw hK
  obtain ⟨xs,x,hq,hx⟩ := hg
  obtain ⟨its,rv,p,hz⟩ := I.tuple hq
  obtain ⟨u,hu,ru⟩ := rv.get hx
  obtain ⟨f0,f1,f2,f3,f4,f5⟩ := hf it (by simp)
  refine wpAny_pyNext_tuple_item st (show s.heap.IsTuple a its.toArray from p) (x := u) (by simpa using hu) fun h' st' sb => ?_
  have I1 : Ae X pins σ H { s with heap := h' } := I.turned (t' := s.toks) (fun b o hb e => (sb.2 b hb).trans e) f0 f1 f3 f4 f5
  obtain ⟨o,e,c,d⟩ := id st'
  exact ⟨u,rfl,Fp (s := { s with heap := h' }) e c d (by decide) ⟨x,H,I1,ru,⟨rfl,fun ys hy => by rw [I.tuple_inj hy hq]; exact hx⟩,st',fun b hb => (hf b hb).1⟩⟩
 done := by
  intro X hP hw hK hc i pins s σ H E I hf st hg
  subst hP hw hK
  obtain ⟨xs,hq,hx⟩ := hg
  obtain ⟨its,rv,p,hz⟩ := I.tuple hq
  obtain ⟨f0,f1,f2,f3,f4,f5⟩ := hf it (by simp)
  have hl := rv.length
  exact wpAny_pyNext_tuple_end (I.ok.hd hc) st (show s.heap.IsTuple a its.toArray from p) (by simp; omega) fun h' eb => ⟨rfl,I.turned (t' := s.toks) (fun b o hb e => eb b o hb e) f0 f1 f3 f4 f5⟩
 self := fun _ _ _ _ _ st h => wpAny_pyIter_tupleiter st h
theorem LQ {w : World} {K : PySem.W.Frag} (it : Addr) (lo : Int) (n : Nat) : Cr P w K tg (CC lo n) [it] it (fun i h => IsRangeIter h it (lo + (i : Nat) * 1) ((n : Int) - (i : Nat)) 1) where
 mem := by simp
 obj := fun i h st b hb => by
  have e : b = it := by simpa using hb
  subst e
  exact ⟨_,st,fun v z => by
   have z' : Data.fields _ = Data.cell v := z
   cases z'⟩
 keep := fun i h h' st k => k it (by simp) _ st
 item := by
  intro X hP hw hK hc i pins s σ H E I hf st hg
  subst hP hw hK
  obtain ⟨f0,f1,f2,f3,f4,f5⟩ := hf it (by simp)
  have W := Walks.range (prog := X.prog) (w := X.w) (I.ok.hd hc) it lo 1 n
  refine W.item i s _ _ hg st fun v h' tk hv st' kk => ?_
  obtain ⟨t,rfl⟩ := hv
  have I1 : Ae X pins σ H { s with heap := h',toks := tk } := I.turned (fun b o hb e => kk b o (by simpa using hb) e) f0 f1 f3 f4 f5
  refine ⟨_,rfl,Fp (s := { s with heap := h',toks := tk }) (n := "range_iterator") st' rfl rfl (by decide) ⟨.int (lo + i),H,I1,⟨t,?_⟩,⟨rfl,rfl⟩,st',fun b hb => (hf b hb).1⟩⟩
  rw [Int.mul_one]
 done := by
  intro X hP hw hK hc i pins s σ H E I hf st hg
  subst hP hw hK
  obtain ⟨f0,f1,f2,f3,f4,f5⟩ := hf it (by simp)
  exact wpAny_pyNext_range_end (I.ok.hd hc) st (by have : n <= i := hg; omega) fun h' eb => ⟨rfl,I.turned (t' := s.toks) (fun b o hb e => eb b o hb e) f0 f1 f3 f4 f5⟩
 self := fun _ _ _ _ _ st h => wpAny_pyIter_rangeiter st h
end L2
namespace L2
open PySem PySem.Spec PyProof.Rows
variable {tl : TE} {pins : List (Addr × Obj)} {σ : St} {H : Hp} {s : Shared} {a : Expr} {ta : TA} {p : Pos} {h : Heap} {xs : List V} {tb : TS} {D : CS}
section
variable {X : Cx} {tg : Expr}
def IE (K : PySem.W.Frag) (tl : TE) : TI := fun σ H R => tl σ H fun x H1 => ∃ a,x = .ref a /\ (∃ xs,Am K H1 a xs) /\ R (Dc K a) H1
def IF (K : PySem.W.Frag) (tl : TE) : TI := fun σ H R => tl σ H fun x H1 => ∃ a,x = .ref a /\ (∃ xs,Ad K H1 a xs) /\ R (Dw K a) H1
theorem LR {l : Expr} (hl : PE X l tl) : PI X tg l (IE X.K tl) := by
 intro pins s σ H R I h
 refine An (hl pins s σ H _ I h) fun v s1 ⟨x,H1,I1,r1,q1⟩ => ?_
 obtain ⟨a,e,⟨xs,hq⟩,q⟩ := q1
 subst e
 cases r1
 obtain ⟨its,rv,p,hz⟩ := I1.list hq
 refine wpAny_pyIter_list p.isList ?_
 refine ⟨s1.heap.objs.size,[s1.heap.objs.size],_,_,H1,rfl,I1.kept (t' := s1.toks) fun b o e => Heap.get?_push_of_some _ e,LO a _,⟨_,Heap.get?_push_size _ rfl,rfl,rfl⟩,fun b hb => ?_,q⟩
 have e : b = s1.heap.objs.size := by simpa using hb
 subst e
 exact I1.fpOk (Nat.le_refl _) (I1.hok.fresh (Nat.le_refl _))
theorem LS {l : Expr} (hl : PE X l tl) : PI X tg l (IF X.K tl) := by
 intro pins s σ H R I h
 refine An (hl pins s σ H _ I h) fun v s1 ⟨x,H1,I1,r1,q1⟩ => ?_
 obtain ⟨a,e,⟨xs,hq⟩,q⟩ := q1
 subst e
 cases r1
 obtain ⟨its,rv,p,hz⟩ := I1.tuple hq
 refine wpAny_pyIter_tuple (show s1.heap.IsTuple a its.toArray from p) ?_
 refine ⟨s1.heap.objs.size,[s1.heap.objs.size],_,_,H1,rfl,I1.kept (t' := s1.toks) fun b o e => Heap.get?_push_of_some _ e,LP a _,⟨_,Heap.get?_push_size _ rfl,rfl,rfl⟩,fun b hb => ?_,q⟩
 have e : b = s1.heap.objs.size := by simpa using hb
 subst e
 exact I1.fpOk (Nat.le_refl _) (I1.hok.fresh (Nat.le_refl _))
theorem IG {R : It -> Hp -> Prop} {E : Value -> Shared -> Prop} {lo hi : Int} {t u v : Tok} {tk : Nat} (I : Ae X pins σ H s) (h1 : -(2 ^ 62) <= lo) (h2 : lo < 2 ^ 62) (h3 : -(2 ^ 62) <= hi) (h4 : hi < 2 ^ 62)
  (q : R (CC lo (hi - lo).toNat) H) : wpAny (model X.prog X.w) X.A (pyIter (.ref s.heap.objs.size)) (ID X pins σ tg R) E { s with heap := s.heap.push { cls := .type "range",data := .fields #[.int lo t,.int hi u,.int 1 v] },toks := tk } := by
 refine wpAny_pyIter_range (IsRange.new ..) (small_one h1 h2 h3 h4) ?_
 have I1 : Ae X pins σ H { s with heap := s.heap.push { cls := .type "range",data := .fields #[.int lo t,.int hi u,.int 1 v] },toks := tk } := I.kept fun b o e => Heap.get?_push_of_some _ e
 refine ⟨(s.heap.push { cls := .type "range",data := .fields #[.int lo t,.int hi u,.int 1 v] }).objs.size,[(s.heap.push { cls := .type "range",data := .fields #[.int lo t,.int hi u,.int 1 v] }).objs.size],_,_,H,rfl,
  I1.kept (t' := tk) fun b o e => Heap.get?_push_of_some _ e,LQ _ lo (hi - lo).toNat,?_,fun b hb => ?_,q⟩
 ·have e1 : lo + ((0 : Nat) : Int) * 1 = lo := by simp
  have e2 : (((hi - lo).toNat : Nat) : Int) - ((0 : Nat) : Int) = Builtin.Range.rangeSize lo hi 1 := by rw [rangeSize_one]; split <;> omega
  show IsRangeIter _ _ (lo + ((0 : Nat) : Int) * 1) ((((hi - lo).toNat : Nat) : Int) - ((0 : Nat) : Int)) 1
  rw [e1,e2]
  exact Heap.get?_push_size _ rfl
 ·have e : b = (s.heap.push { cls := .type "range",data := .fields #[.int lo t,.int hi u,.int 1 v] }).objs.size := by simpa using hb
  subst e
  exact I1.fpOk (Nat.le_refl _) (I1.hok.fresh (Nat.le_refl _))
def LT (ta : TA) : TI := fun σ H R => ta σ H fun vs H1 => ∃ j : Int,vs = [.int j] /\ -(2 ^ 62) <= j /\ j < 2 ^ 62 /\ R (CC 0 j.toNat) H1
def LU (ta : TA) : TI := fun σ H R => ta σ H fun vs H1 => ∃ i j : Int,vs = [.int i,.int j] /\ (-(2 ^ 62) <= i /\ i < 2 ^ 62 /\ -(2 ^ 62) <= j /\ j < 2 ^ 62) /\ R (CC i (j - i).toNat) H1
theorem BU {pos : Pos} (hg : Gl X "range") (hm : X.mg "range" = none) (ha : PA X [a] ta) (hs : starEach [a] X.env = [(false,eval a X.env)] := by rfl) : PI X tg (.Call (.Name "range" p) [a] [] pos) (LT ta) := by
 intro pins s σ H R I h
 refine Call_ (Cb I hg hm boot_range (PyProof.Rows.callWith_type1 (An (ha pos pins s σ H _ I h) fun us s1 ⟨vs,H1,I1,r1,q1⟩ => ?_) hs rfl))
 obtain ⟨j,e,q1,q2,q⟩ := q1
 subst e
 cases r1 with
 | cons r rr =>
  cases rr
  obtain ⟨t,rfl⟩ := r
  exact call_range_1 (IG I1 (by omega) (by omega) q1 q2 (by simpa using q))
theorem IH {b : Expr} {pos : Pos} (hg : Gl X "range") (hm : X.mg "range" = none) (ha : PA X [a,b] ta) (hs : starEach [a,b] X.env = [(false,eval a X.env),(false,eval b X.env)] := by rfl) (hs2 : starEach [b] X.env = [(false,eval b X.env)] := by rfl) :
  PI X tg (.Call (.Name "range" p) [a,b] [] pos) (LU ta) := by
 intro pins s σ H R I h
 refine Call_ (Cb I hg hm boot_range (PyProof.Rows.callWith_type1 (An (ha pos pins s σ H _ I h) fun us s1 ⟨vs,H1,I1,r1,q1⟩ => ?_) (by rw [hs,hs2]) (by rw [hs2]; rfl)))
 obtain ⟨i,j,e,⟨q1,q2,q3,q4⟩,q⟩ := q1
 subst e
 cases r1 with
 | cons r rr =>
  cases rr with
  | cons r' rr =>
   cases rr
   obtain ⟨t,rfl⟩ := r
   obtain ⟨t',rfl⟩ := r'
   exact call_range_2 (IG I1 q1 q2 q3 q4 q)
def LV (wi : TI) (g : TG) (tb : TS) : TS := fun D σ H => wi σ H fun J H1 => ∃ W : Nat -> Nat -> St -> Hp -> Prop,(∃ m,W 0 m σ H1) /\ ∀ i m σ H,W i m σ H ->
 (J.stop i H /\ D.nx σ H) \/ (J.go i H /\ ∃ N : St -> Hp -> Prop,(∀ σ' H',N σ' H' -> ∃ m',m' < m /\ W (i + 1) m' σ' H') /\ ∀ x H',J.yld i H x H' -> g x σ H' fun σ2 H2 => tb { D with nx := N,ct := N,bk := D.nx } σ2 H2)
def Cs (fp : List Addr) (h : Heap) : List (Addr × Obj) := fp.filterMap fun b => (h.get? b).map fun o => (b,o)
theorem DW {fp : List Addr} {b : Addr} {o : Obj} (hb : b ∈ fp) (e : h.get? b = some o) : (b,o) ∈ Cs fp h := List.mem_filterMap.mpr ⟨b,hb,by rw [e]; rfl⟩
theorem G7 {fp : List Addr} {p : Addr × Obj} (hp : p ∈ Cs fp h) : p.1 ∈ fp /\ h.get? p.1 = some p.2 := by
 obtain ⟨b,hb,e⟩ := List.mem_filterMap.mp hp
 cases q : h.get? b with
 | none => rw [q] at e; cases e
 | some o =>
  rw [q] at e
  have e' : (b,o) = p := Option.some.inj e
  subst e'
  exact ⟨hb,q⟩
theorem Ae.pinned {fp : List Addr} (I : Ae X pins σ H s) (hf : ∀ b ∈ fp,Bq X pins H b) (ho : ∀ b ∈ fp,∃ o,s.heap.get? b = some o /\ ∀ v,o.data ≠ .cell v) : Ae X (pins ++ Cs fp s.heap) σ H s :=
 I.pins_of fun p hp => (List.mem_append.mp hp).elim (fun z => I.pin p (List.mem_append_right _ z)) fun z => by
  obtain ⟨hb,e⟩ := G7 z
  obtain ⟨f0,f1,f2,_⟩ := hf p.1 hb
  obtain ⟨o,e',d⟩ := ho p.1 hb
  rw [e] at e'; cases e'
  exact ⟨e,f0,f1,f2,d⟩
theorem Ae.unpinned {pl : List (Addr × Obj)} (I : Ae X (pins ++ pl) σ H s) : Ae X pins σ H s := I.pins_of fun p hp => I.pin p (List.mem_append_right _ (List.mem_append_left _ hp))
theorem BK {iter : Expr} {body : List Stmt} {wi : TI} {g : TG} {tb : TS} {pos : Pos} (hp : PassesOwn (model X.prog X.w) X.A X.env X.xe) (hc : X.calm = true) (hi : PI X tg iter wi) (hg : PG X tg g) (hb : PSs X body tb)
  (hs : ∀ x,foldedSetIterable iter X.env x = pure x := by intro _; rfl) : PS X (.For tg iter body [] pos) (LV wi g tb) := by
 intro pins s σ H D I h
 refine wpAny_For (An (hi pins s σ H _ I h) fun v s1 h1 => An h1 fun itv s2 h2 => ?_) hs
 obtain ⟨it,fp,tn,J,H2,e,I2,T,st2,f2,W,⟨m0,w0⟩,turn⟩ := h2
 subst e
 -- what stays true of the iterator's objects through the loop
 have stat : ∀ {H' : Hp},(∀ b ∈ fp,H' b = none) -> ∀ b ∈ fp,Bq X pins H' b := fun hn b hb => ⟨hn b hb,(f2 b hb).2⟩
 refine codeAny_forLoop_any (fun n s' => ∃ i σ' H',Ae X pins σ' H' s' /\ tn i s'.heap /\ (∀ b ∈ fp,H' b = none) /\ W i n σ' H') ?_ m0 ⟨0,σ,H2,I2,st2,fun b hb => (f2 b hb).1,w0⟩
 rintro n s3 ⟨i,σ3,H3,I3,st3,fr3,w3⟩
 rcases turn i n σ3 H3 w3 with ⟨stop,qn⟩ | ⟨go,N,hN,step⟩
 ·refine wpAny_passesOwn hp (An (T.done X rfl rfl rfl hc i pins s3 σ3 H3 X.xe I3 (stat fr3) st3 stop) fun r s4 ⟨hr,I4⟩ => ?_)
  subst hr
  exact wpAny_execs_nil ⟨σ3,H3,I4,qn⟩
 ·refine wpAny_passesOwn hp (An (T.item X rfl rfl rfl hc i pins s3 σ3 H3 X.xe I3 (stat fr3) st3 go) fun r s4 ⟨u,hr,h4⟩ => ?_)
  subst hr
  refine wpAny_passesOwn hp (An h4 fun _ s5 ⟨x,H5,I5,r5,y5,st5,fr5⟩ => ?_)
  have I5' := I5.pinned (stat fr5) (T.obj _ _ st5)
  refine wpAny_passesOwn hp (An (hg _ s5 σ3 H5 x u _ I5' r5 (step x H5 y5)) fun _ s6 ⟨σ6,H6,I6,q6⟩ => ?_)
  refine wpAny_passesOwn hp (An (hb _ s6 σ6 H6 _ I6 q6) fun f s7 q7 => ?_)
  have again : ∀ {σ7 : St} {H7 : Hp},Ae X (pins ++ Cs fp s5.heap) σ7 H7 s7 -> N σ7 H7 -> ∃ m,m < n /\ ∃ i σ' H',Ae X pins σ' H' s7 /\ tn i s7.heap /\ (∀ b ∈ fp,H' b = none) /\ W i m σ' H' := fun {σ7 H7} I7 n7 => by
   obtain ⟨m',hm,w7⟩ := hN σ7 H7 n7
   refine ⟨m',hm,i + 1,σ7,H7,I7.unpinned,T.keep _ _ _ st5 fun b hb o e => (I7.pin (b,o) (List.mem_append_right _ (List.mem_append_right _ (DW hb e)))).1,fun b hb => ?_,w7⟩
   obtain ⟨o,e,d⟩ := T.obj _ _ st5 b hb
   exact (I7.pin (b,o) (List.mem_append_right _ (List.mem_append_right _ (DW hb e)))).2.1
  cases f with
  | next => obtain ⟨σ7,H7,I7,n7⟩ := q7; exact again I7 n7
  | cont => obtain ⟨σ7,H7,I7,n7⟩ := q7; exact again I7 n7
  | brk => obtain ⟨σ7,H7,I7,q7⟩ := q7; exact ⟨σ7,H7,I7.unpinned,q7⟩
  | ret v => obtain ⟨x7,σ7,H7,I7,r7,q7⟩ := q7; exact ⟨x7,σ7,H7,I7.unpinned,r7,q7⟩
end
theorem II {K : PySem.W.Frag} {a : Addr} {g : TG} (Pv : Nat -> St -> Hp -> Prop) (h0 : Pv 0 σ H) (hl : ∀ i σ H,i <= xs.length -> Pv i σ H -> Am K H a xs)
  (hs : ∀ i x σ H,xs[i]? = some x -> Pv i σ H -> g x σ H fun σ2 H2 => tb { D with nx := Pv (i + 1),ct := Pv (i + 1),bk := D.nx } σ2 H2) (hd : ∀ σ H,Pv xs.length σ H -> D.nx σ H) :
  ∃ W : Nat -> Nat -> St -> Hp -> Prop,(∃ m,W 0 m σ H) /\ ∀ i m σ H,W i m σ H ->
   ((Dc K a).stop i H /\ D.nx σ H) \/ ((Dc K a).go i H /\ ∃ N : St -> Hp -> Prop,(∀ σ' H',N σ' H' -> ∃ m',m' < m /\ W (i + 1) m' σ' H') /\ ∀ x H',(Dc K a).yld i H x H' -> g x σ H' fun σ2 H2 => tb { D with nx := N,ct := N,bk := D.nx } σ2 H2) := by
 refine ⟨fun i m σ H => m = xs.length - i /\ i <= xs.length /\ Pv i σ H,⟨xs.length,by simp,Nat.zero_le _,h0⟩,?_⟩
 rintro i m σ H ⟨rfl,hi,p⟩
 have q := hl i σ H hi p
 by_cases hlt : i < xs.length
 ·refine .inr ⟨⟨xs,xs[i],q,by simp [hlt]⟩,Pv (i + 1),fun σ' H' p' => ⟨xs.length - (i + 1),by omega,rfl,hlt,p'⟩,fun x H' y => ?_⟩
  obtain ⟨e,y⟩ := y
  subst e
  exact hs i x σ _ (y xs q) p
 ·have e : i = xs.length := by omega
  subst e
  exact .inl ⟨⟨xs,q,Nat.le_refl _⟩,hd σ H p⟩
theorem IJ {K : PySem.W.Frag} {a : Addr} {g : TG} (Pv : Nat -> St -> Hp -> Prop) (h0 : Pv 0 σ H) (hl : ∀ i σ H,i <= xs.length -> Pv i σ H -> Ad K H a xs)
  (hs : ∀ i x σ H,xs[i]? = some x -> Pv i σ H -> g x σ H fun σ2 H2 => tb { D with nx := Pv (i + 1),ct := Pv (i + 1),bk := D.nx } σ2 H2) (hd : ∀ σ H,Pv xs.length σ H -> D.nx σ H) :
  ∃ W : Nat -> Nat -> St -> Hp -> Prop,(∃ m,W 0 m σ H) /\ ∀ i m σ H,W i m σ H ->
   ((Dw K a).stop i H /\ D.nx σ H) \/ ((Dw K a).go i H /\ ∃ N : St -> Hp -> Prop,(∀ σ' H',N σ' H' -> ∃ m',m' < m /\ W (i + 1) m' σ' H') /\ ∀ x H',(Dw K a).yld i H x H' -> g x σ H' fun σ2 H2 => tb { D with nx := N,ct := N,bk := D.nx } σ2 H2) := by
 refine ⟨fun i m σ H => m = xs.length - i /\ i <= xs.length /\ Pv i σ H,⟨xs.length,by simp,Nat.zero_le _,h0⟩,?_⟩
 rintro i m σ H ⟨rfl,hi,p⟩
 have q := hl i σ H hi p
 by_cases hlt : i < xs.length
 ·refine .inr ⟨⟨xs,xs[i],q,by simp [hlt]⟩,Pv (i + 1),fun σ' H' p' => ⟨xs.length - (i + 1),by omega,rfl,hlt,p'⟩,fun x H' y => ?_⟩
  obtain ⟨e,y⟩ := y
  subst e
  exact hs i x σ _ (y xs q) p
 ·have e : i = xs.length := by omega
  subst e
  exact .inl ⟨⟨xs,q,Nat.le_refl _⟩,hd σ H p⟩
theorem Dx {lo : Int} {n : Nat} {g : TG} (Pv : Nat -> St -> Hp -> Prop) (h0 : Pv 0 σ H)
  (hs : ∀ i σ H,i < n -> Pv i σ H -> g (.int (lo + i)) σ H fun σ2 H2 => tb { D with nx := Pv (i + 1),ct := Pv (i + 1),bk := D.nx } σ2 H2) (hd : ∀ σ H,Pv n σ H -> D.nx σ H) :
  ∃ W : Nat -> Nat -> St -> Hp -> Prop,(∃ m,W 0 m σ H) /\ ∀ i m σ H,W i m σ H ->
   ((CC lo n).stop i H /\ D.nx σ H) \/ ((CC lo n).go i H /\ ∃ N : St -> Hp -> Prop,(∀ σ' H',N σ' H' -> ∃ m',m' < m /\ W (i + 1) m' σ' H') /\ ∀ x H',(CC lo n).yld i H x H' -> g x σ H' fun σ2 H2 => tb { D with nx := N,ct := N,bk := D.nx } σ2 H2) := by
 refine ⟨fun i m σ H => m = n - i /\ i <= n /\ Pv i σ H,⟨n,by simp,Nat.zero_le _,h0⟩,?_⟩
 rintro i m σ H ⟨rfl,hi,p⟩
 by_cases hlt : i < n
 ·refine .inr ⟨hlt,Pv (i + 1),fun σ' H' p' => ⟨n - (i + 1),by omega,rfl,hlt,p'⟩,fun x H' y => ?_⟩
  obtain ⟨e,y⟩ := y
  subst e y
  exact hs i σ _ hlt p
 ·have e : i = n := by omega
  subst e
  exact .inl ⟨Nat.le_refl _,hd σ H p⟩
end L2
namespace L2
open PySem PySem.Spec PyProof.Rows
variable {i j : Int} {us : List Value}
abbrev R2 := V -> V -> Hp -> VK -> Prop
def OpR (X : Cx) (f : Value -> Value -> Sem Value) (r : R2) : Prop :=
 ∀ (pins : List (Addr × Obj)) (s : Shared) (σ : St) (H : Hp) (x y : V) (v u : Value) (Q : VK),Ae X pins σ H s -> Ay x v -> Ay y u -> r x y H Q ->
  wpAny (model X.prog X.w) X.A (f v u) (EP X pins σ Q) X.xe s
def G8 (X : Cx) (f : Value -> Sem Value) (r : V -> Hp -> VK -> Prop) : Prop :=
 ∀ (pins : List (Addr × Obj)) (s : Shared) (σ : St) (H : Hp) (x : V) (v : Value) (Q : VK),Ae X pins σ H s -> Ay x v -> r x H Q ->
  wpAny (model X.prog X.w) X.A (f v) (EP X pins σ Q) X.xe s
def BL (X : Cx) (f : Value) (r : List V -> Hp -> VK -> Prop) : Prop :=
 ∀ (pins : List (Addr × Obj)) (s : Shared) (σ : St) (H : Hp) (xs : List V) (us : List Value) (Q : VK),Ae X pins σ H s -> Ar xs us -> r xs H Q ->
  wpAny (model X.prog X.w) X.A (call f us) (EP X pins σ Q) X.xe s
def Fq (r : R2) (ta tb : TE) : TE := fun σ H Q => ta σ H fun x H1 => tb σ H1 fun y H2 => r x y H2 Q
def LW (r : V -> Hp -> VK -> Prop) (ta : TE) : TE := fun σ H Q => ta σ H fun x H1 => r x H1 Q
def rI (C : Int -> Int -> Prop) (g : Int -> Int -> V) : R2 := fun x y H Q => ∃ i j,x = .int i /\ y = .int j /\ C i j /\ Q (g i j) H
def CD (g : Int -> Int -> V) : R2 := fun x y H Q => ∃ i j,x = .int i /\ y = .int j /\ Q (g i j) H
def rU (g : Int -> V) : V -> Hp -> VK -> Prop := fun x H Q => ∃ i,x = .int i /\ Q (g i) H
section
variable {X : Cx} {a b c : Expr} {ta tb tc : TE} {pos : Pos}
theorem G9 (ha : PE X a ta) (hb : PE X b tb) {pins : List (Addr × Obj)} {s : Shared} {σ : St} {H : Hp} {R : V -> V -> Hp -> Prop} (I : Ae X pins σ H s)
  (h : ta σ H fun x H1 => tb σ H1 fun y H2 => R x y H2) {Q : Value -> Shared -> Prop} {f : Value -> Value -> Sem Value}
  (hf : ∀ v u s2 x y H2,Ae X pins σ H2 s2 -> Ay x v -> Ay y u -> R x y H2 -> wpAny (model X.prog X.w) X.A (f v u) Q X.xe s2) :
  wpAny (model X.prog X.w) X.A (eval a X.env) (fun v s₁ => wpAny (model X.prog X.w) X.A (eval b X.env) (fun u s₂ => wpAny (model X.prog X.w) X.A (f v u) Q X.xe s₂) X.xe s₁) X.xe s := by
 refine An (ha pins s σ H _ I h) fun v s1 ⟨x,H1,I1,r1,q1⟩ => ?_
 refine An (hb pins s1 σ H1 _ I1 q1) fun u s2 ⟨y,H2,I2,r2,q2⟩ => ?_
 exact hf v u s2 x y H2 I2 r1 r2 q2
theorem Av {op : Operator} {r : R2} (ho : OpR X (binaryOp op) r) (ha : PE X a ta) (hb : PE X b tb) : PE X (.BinOp a op b pos) (Fq r ta tb) := by
 intro pins s σ H Q I h
 exact wpAny_BinOp (G9 ha hb I h fun v u s2 x y H2 I2 rx ry q => ho pins s2 σ H2 x y v u Q I2 rx ry q)
theorem LX {op : UnaryOp} {r : V -> Hp -> VK -> Prop} (ho : G8 X (unaryOp op) r) (ha : PE X a ta) : PE X (.UnaryOp op a pos) (LW r ta) := by
 intro pins s σ H Q I h
 exact UnaryOp_ (An (ha pins s σ H _ I h) fun v s1 ⟨x,H1,I1,r1,q1⟩ => ho pins s1 σ H1 x v Q I1 r1 q1)
theorem Fr {f : Value -> Value -> Sem Value} {C : Int -> Int -> Prop} {g : Int -> Int -> Int}
  (rule : ∀ (i j : Int) (t u : Tok) (s : Shared) (Q : Value -> Shared -> Prop) (E : Value -> Shared -> Prop),C i j -> Q (.int (g i j) s.toks) { s with toks := s.toks + 1 } -> wpAny (model X.prog X.w) X.A (f (.int i t) (.int j u)) Q E s) :
  OpR X f (rI C fun i j => .int (g i j)) := by
 intro pins s σ H x y v u Q I rx ry h
 obtain ⟨i,j,rfl,rfl,hc,q⟩ := h
 obtain ⟨t,rfl⟩ := rx
 obtain ⟨t',rfl⟩ := ry
 exact rule i j t t' s _ _ hc ⟨.int (g i j),H,I.tok _,⟨_,rfl⟩,q⟩
theorem IK {f : Value -> Value -> Sem Value} {g : Int -> Int -> Int}
  (rule : ∀ (i j : Int) (t u : Tok) (s : Shared) (Q : Value -> Shared -> Prop) (E : Value -> Shared -> Prop),Q (.int (g i j) s.toks) { s with toks := s.toks + 1 } -> wpAny (model X.prog X.w) X.A (f (.int i t) (.int j u)) Q E s) :
  OpR X f (CD fun i j => .int (g i j)) := by
 intro pins s σ H x y v u Q I rx ry h
 obtain ⟨i,j,rfl,rfl,q⟩ := h
 obtain ⟨t,rfl⟩ := rx
 obtain ⟨t',rfl⟩ := ry
 exact rule i j t t' s _ _ ⟨.int (g i j),H,I.tok _,⟨_,rfl⟩,q⟩
theorem Fs {f : Value -> Value -> Sem Value} {g : Int -> Int -> Bool}
  (rule : ∀ (i j : Int) (t u : Tok) (s : Shared) (Q : Value -> Shared -> Prop) (E : Value -> Shared -> Prop),Q (.bool (g i j)) s -> wpAny (model X.prog X.w) X.A (f (.int i t) (.int j u)) Q E s) :
  OpR X f (CD fun i j => .bl (g i j)) := by
 intro pins s σ H x y v u Q I rx ry h
 obtain ⟨i,j,rfl,rfl,q⟩ := h
 obtain ⟨t,rfl⟩ := rx
 obtain ⟨t',rfl⟩ := ry
 exact rule i j t t' s _ _ ⟨.bl (g i j),H,I,rfl,q⟩
def Ha (i j : Int) : Prop := 0 < j /\ j < 1073741824
def IL (i j : Int) : Prop := 0 <= j /\ j <= 1000000 /\ i.natAbs < 2 ^ 64
def CMul (i j : Int) : Prop := (-(2 ^ 64) < i /\ i < 2 ^ 64) \/ (-(2 ^ 64) < j /\ j < 2 ^ 64)
theorem CMul.ok (h : CMul i j) : IntMulOk i j := by
 rcases h with ⟨h1,h2⟩ | ⟨h1,h2⟩
 ·exact .of_left (intBits_le_64 h1 h2)
 ·exact .of_right (intBits_le_64 h1 h2)
theorem op_add : OpR X (binaryOp .Add) (CD fun i j => .int (i + j)) := IK fun _ _ _ _ _ _ _ q => add_int q
theorem op_sub : OpR X (binaryOp .Sub) (CD fun i j => .int (i - j)) := IK fun _ _ _ _ _ _ _ q => sub_int q
theorem op_mul : OpR X (binaryOp .Mult) (rI CMul fun i j => .int (i * j)) := Fr fun _ _ _ _ _ _ _ hc q => mul_int q hc.ok
theorem op_fdiv : OpR X (binaryOp .FloorDiv) (rI Ha fun i j => .int (i / j)) := Fr fun i j _ _ _ _ _ hc q => by
 have h1 : (0 : Int) < j := hc.1
 have h2 : j < 1073741824 := hc.2
 exact floordiv_int (by omega) (by rw [Int.fdiv_eq_ediv_of_nonneg i (by omega)]; exact q) (.inl (PyProof.noPylong_small (by omega)))
theorem op_mod : OpR X (binaryOp .Mod) (rI (fun _ j => 0 < j) fun i j => .int (i % j)) := Fr fun i j _ _ _ _ _ hc q => by
 have h1 : (0 : Int) < j := hc
 exact mod_int' (by omega) (by rw [Int.fmod_eq_emod_of_nonneg i (by omega)]; exact q)
theorem op_pow : OpR X (binaryOp .Pow) (rI IL fun i j => .int (i ^ j.toNat)) := Fr fun _ _ _ _ _ _ _ hc q => pow_int_small hc.1 hc.2.1 hc.2.2 q
theorem LY {f : Value -> Sem Value} {g : Int -> Int}
  (rule : ∀ (i : Int) (t : Tok) (s : Shared) (Q : Value -> Shared -> Prop) (E : Value -> Shared -> Prop),Q (.int (g i) s.toks) { s with toks := s.toks + 1 } -> wpAny (model X.prog X.w) X.A (f (.int i t)) Q E s) :
  G8 X f (rU fun i => .int (g i)) := by
 intro pins s σ H x v Q I rx h
 obtain ⟨i,rfl,q⟩ := h
 obtain ⟨t,rfl⟩ := rx
 exact rule i t s _ _ ⟨.int (g i),H,I.tok _,⟨_,rfl⟩,q⟩
theorem LZ : G8 X (unaryOp .USub) (rU fun i => .int (-i)) := LY fun _ _ _ _ _ q => neg_int q
end
def IM : V -> V -> Bool
 | .non,.non => true | .non,.int _ => true | .int _,.non => true | .non,.bl _ => true | .bl _,.non => true | .non,.str _ => true | .str _,.non => true
 | .int _,.int _ => true | .bl _,.bl _ => true | .str _,.str _ => true | .byt _,.byt _ => true
 | .int _,.str _ => true | .str _,.int _ => true | .bl _,.str _ => true | .str _,.bl _ => true
 | _,_ => false
def L0 : R2 := fun x y H Q => IM x y = true /\ Q (.bl (decide (x = y))) H
def L1 : R2 := fun x y H Q => IM x y = true /\ Q (.bl (!decide (x = y))) H
theorem Dd : decide (V.int i = V.int j) = (i == j) := by
 rw [Bool.eq_iff_iff]
 simp
theorem IN {i j : Bool} : decide (V.bl i = V.bl j) = (i == j) := by
 rw [Bool.eq_iff_iff]
 simp
theorem IO {i j : Str} : decide (V.str i = V.str j) = (i == j) := by
 rw [Bool.eq_iff_iff]
 simp
theorem IP {i j : Array UInt8} : decide (V.byt i = V.byt j) = (i.toList == j.toList) := by
 rw [Bool.eq_iff_iff]
 cases i
 cases j
 simp
section
variable {X : Cx} {a b c : Expr} {ta tb tc : TE} {pos : Pos}
theorem AU {pins : List (Addr × Obj)} {σ : St} {H : Hp} {s : Shared} {Q : VK} {k k' : Bool} (I : Ae X pins σ H s) (q : Q (.bl k) H) (e : k = k') : EP X pins σ Q (.bool k') s := by
 subst e
 exact ⟨.bl k,H,I,rfl,q⟩
theorem Ct : OpR X (compareOp .Eq) L0 := by
 intro pins s σ H x y v u Q I rx ry h
 obtain ⟨hs,q⟩ := h
 cases x with
 | non =>
  cases rx
  cases y with
  | non => cases ry; exact PySem.EqNone.eq_none_none (AU I q (by simp))
  | bl j => cases ry; exact PySem.EqNone.eq_none_bool (AU I q (by simp))
  | int j => obtain ⟨t',rfl⟩ := ry; exact PySem.EqNone.eq_none_int (AU I q (by simp))
  | str j => obtain ⟨t',rfl⟩ := ry; exact PySem.EqNone.eq_none_str (AU I q (by simp))
  | _ => exact absurd (show false = true from hs) Bool.false_ne_true
 | bl i =>
  cases rx
  cases y with
  | non => cases ry; exact PySem.EqNone.eq_bool_none (AU I q (by simp))
  | bl j => cases ry; exact eq_bool (AU I q IN)
  | str j => obtain ⟨t',rfl⟩ := ry; exact PySem.EqMixed.eq_bool_str (AU I q (by simp))
  | _ => exact absurd (show false = true from hs) Bool.false_ne_true
 | int i =>
  obtain ⟨t,rfl⟩ := rx
  cases y with
  | non => cases ry; exact PySem.EqNone.eq_int_none (AU I q (by simp))
  | int j => obtain ⟨t',rfl⟩ := ry; exact eq_int (AU I q Dd)
  | str j => obtain ⟨t',rfl⟩ := ry; exact PySem.EqMixed.eq_int_str (AU I q (by simp))
  | _ => exact absurd (show false = true from hs) Bool.false_ne_true
 | str i =>
  obtain ⟨t,rfl⟩ := rx
  cases y with
  | non => cases ry; exact PySem.EqNone.eq_str_none (AU I q (by simp))
  | bl j => cases ry; exact PySem.EqMixed.eq_str_bool (AU I q (by simp))
  | int j => obtain ⟨t',rfl⟩ := ry; exact PySem.EqMixed.eq_str_int (AU I q (by simp))
  | str j => obtain ⟨t',rfl⟩ := ry; exact eq_str (AU I q IO)
  | _ => exact absurd (show false = true from hs) Bool.false_ne_true
 | byt i =>
  obtain ⟨t,rfl⟩ := rx
  cases y with
  | byt j => obtain ⟨t',rfl⟩ := ry; exact PySem.W.eq_bytes (AU I q IP)
  | _ => exact absurd (show false = true from hs) Bool.false_ne_true
 | _ => cases y <;> exact absurd (show false = true from hs) Bool.false_ne_true
theorem Ft : OpR X (compareOp .NotEq) L1 := by
 intro pins s σ H x y v u Q I rx ry h
 obtain ⟨hs,q⟩ := h
 cases x with
 | non =>
  cases rx
  cases y with
  | non => cases ry; exact PySem.EqNone.ne_none_none (AU I q (by simp))
  | bl j => cases ry; exact PySem.EqNone.ne_none_bool (AU I q (by simp))
  | int j => obtain ⟨t',rfl⟩ := ry; exact PySem.EqNone.ne_none_int (AU I q (by simp))
  | str j => obtain ⟨t',rfl⟩ := ry; exact PySem.EqNone.ne_none_str (AU I q (by simp))
  | _ => exact absurd (show false = true from hs) Bool.false_ne_true
 | bl i =>
  cases rx
  cases y with
  | non => cases ry; exact PySem.EqNone.ne_bool_none (AU I q (by simp))
  | bl j => cases ry; exact ne_bool (AU I q (congrArg not IN))
  | str j => obtain ⟨t',rfl⟩ := ry; exact PySem.EqMixed.ne_bool_str (AU I q (by simp))
  | _ => exact absurd (show false = true from hs) Bool.false_ne_true
 | int i =>
  obtain ⟨t,rfl⟩ := rx
  cases y with
  | non => cases ry; exact PySem.EqNone.ne_int_none (AU I q (by simp))
  | int j => obtain ⟨t',rfl⟩ := ry; exact ne_int (AU I q (congrArg not Dd))
  | str j => obtain ⟨t',rfl⟩ := ry; exact PySem.EqMixed.ne_int_str (AU I q (by simp))
  | _ => exact absurd (show false = true from hs) Bool.false_ne_true
 | str i =>
  obtain ⟨t,rfl⟩ := rx
  cases y with
  | non => cases ry; exact PySem.EqNone.ne_str_none (AU I q (by simp))
  | bl j => cases ry; exact PySem.EqMixed.ne_str_bool (AU I q (by simp))
  | int j => obtain ⟨t',rfl⟩ := ry; exact PySem.EqMixed.ne_str_int (AU I q (by simp))
  | str j => obtain ⟨t',rfl⟩ := ry; exact ne_str (AU I q (congrArg not IO))
  | _ => exact absurd (show false = true from hs) Bool.false_ne_true
 | byt i =>
  obtain ⟨t,rfl⟩ := rx
  cases y with
  | byt j => obtain ⟨t',rfl⟩ := ry; exact PySem.W.ne_bytes (AU I q (congrArg not IP))
  | _ => exact absurd (show false = true from hs) Bool.false_ne_true
 | _ => cases y <;> exact absurd (show false = true from hs) Bool.false_ne_true
theorem op_lt : OpR X (compareOp .Lt) (CD fun i j => .bl (decide (i < j))) := Fs fun _ _ _ _ _ _ _ q => lt_int q
theorem op_le : OpR X (compareOp .LtE) (CD fun i j => .bl (decide (i <= j))) := Fs fun _ _ _ _ _ _ _ q => le_int q
theorem op_gt : OpR X (compareOp .Gt) (CD fun i j => .bl (decide (j < i))) := Fs fun _ _ _ _ _ _ _ q => gt_int q
theorem op_ge : OpR X (compareOp .GtE) (CD fun i j => .bl (decide (j <= i))) := Fs fun _ _ _ _ _ _ _ q => ge_int q
theorem EC : OpR X (compareOp .Is) (fun x y H Q => y = .non /\ Q (.bl (decide (x = .non))) H) := by
  intro pins s σ H x y v u Q I rx ry h
  obtain ⟨rfl,q⟩ := h
  cases ry
  refine is_none_gen (AU I q ?_)
  cases x <;> first
    | (cases rx; rfl)
    | (obtain ⟨t,rfl⟩ := rx; rfl)
theorem Fu : OpR X (compareOp .IsNot) (fun x y H Q => y = .non /\ Q (.bl (!decide (x = .non))) H) := by
  intro pins s σ H x y v u Q I rx ry h
  obtain ⟨rfl,q⟩ := h
  cases ry
  refine isnot_none_gen (AU I q ?_)
  cases x <;> first
    | (cases rx; rfl)
    | (obtain ⟨t,rfl⟩ := rx; rfl)
theorem AQ (b : Expr) {op : CmpOp} (h : op ≠ .In := by decide) (h2 : op ≠ .NotIn := by decide) : behindInMarks op b = false := by
 have e1 : (op == CmpOp.In) = false := by cases op <;> first | rfl | exact absurd rfl h
 have e2 : (op == CmpOp.NotIn) = false := by cases op <;> first | rfl | exact absurd rfl h2
 cases b <;> simp [behindInMarks,e1,e2]
theorem BM {op : CmpOp} {r : R2} (ho : OpR X (compareOp op) r) (ha : PE X a ta) (hb : PE X b tb) (hm : behindInMarks op b = false) : PE X (.Compare a [op] [b] pos) (Fq r ta tb) := by
 intro pins s σ H Q I h
 exact wpAny_Compare1 (G9 ha hb I h fun v u s2 x y H2 I2 rx ry q => ho pins s2 σ H2 x y v u Q I2 rx ry q) hm
theorem IQ {xs : List V} {its : List Value} (r : Ar xs its) : (!its.toArray.isEmpty) = !xs.isEmpty := by
 cases r <;> simp
theorem Fv : (sizeLine : Nat) < 2 ^ 63 := by rw [sizeLine_eq]; decide
theorem Fw {x : V} (r : Ar [x] us) : ∃ u,us = [u] /\ Ay x u := by
 cases r with
 | cons r1 r2 => cases r2; exact ⟨_,rfl,r1⟩
theorem Hb {x y : V} (r : Ar [x,y] us) : ∃ u w',us = [u,w'] /\ Ay x u /\ Ay y w' := by
 cases r with
 | cons r1 r2 =>
  cases r2 with
  | cons r3 r4 => cases r4; exact ⟨_,_,rfl,r1,r3⟩
theorem IR (hc : X.calm = true) : BL X (.builtin "max") (fun xs H Q => ∃ i j,xs = [.int i,.int j] /\ Q (.int (if j > i then j else i)) H) := by
 intro pins s σ H xs us Q I r h
 obtain ⟨i,j,rfl,q⟩ := h
 obtain ⟨u,w',rfl,⟨t,rfl⟩,⟨t',rfl⟩⟩ := Hb r
 refine max_two_ints (I.ok.hd hc) fun h' tk k => ⟨_,H,I.kept k,?_,q⟩
 by_cases hj : j > i
 ·rw [if_pos hj,if_pos hj]; exact ⟨_,rfl⟩
 ·rw [if_neg hj,if_neg hj]; exact ⟨_,rfl⟩
theorem Hc (hc : X.calm = true) : BL X (.builtin "min") (fun xs H Q => ∃ i j,xs = [.int i,.int j] /\ Q (.int (if j < i then j else i)) H) := by
 intro pins s σ H xs us Q I r h
 obtain ⟨i,j,rfl,q⟩ := h
 obtain ⟨u,w',rfl,⟨t,rfl⟩,⟨t',rfl⟩⟩ := Hb r
 refine min_two_ints (I.ok.hd hc) fun h' tk k => ⟨_,H,I.kept k,?_,q⟩
 by_cases hj : j < i
 ·rw [if_pos hj,if_pos hj]; exact ⟨_,rfl⟩
 ·rw [if_neg hj,if_neg hj]; exact ⟨_,rfl⟩
theorem Hd : BL X (.type "int") (fun xs H Q => (∃ i,xs = [.int i] /\ Q (.int i) H) \/ ∃ k,xs = [.bl k] /\ Q (.int (if k then 1 else 0)) H) := by
 intro pins s σ H xs us Q I r h
 rcases h with ⟨i,rfl,q⟩ | ⟨k,rfl,q⟩
 ·obtain ⟨u,rfl,t,rfl⟩ := Fw r
  exact call_int_int ⟨.int i,H,I,⟨_,rfl⟩,q⟩
 ·obtain ⟨u,rfl,r1⟩ := Fw r
  cases r1
  exact call_int_bool ⟨.int (if k then 1 else 0),H,I.tok _,⟨_,rfl⟩,q⟩
theorem L3 : BL X (.builtin "divmod") (fun xs H Q => ∃ i j,xs = [.int i,.int j] /\ Ha i j /\ ∀ p,H p = none -> Q (.ref p) (upd H p (.tup [.int (i / j),.int (i % j)]))) := by
 intro pins s σ H xs us Q I r h
 obtain ⟨i,j,rfl,⟨h1,h2⟩,q⟩ := h
 obtain ⟨u,w',rfl,⟨t,rfl⟩,⟨t',rfl⟩⟩ := Hb r
 refine divmod_int (by omega) ?_ (.inl (PyProof.noPylong_small (by omega)))
 rw [Int.fdiv_eq_ediv_of_nonneg i (by omega),Int.fmod_eq_emod_of_nonneg i (by omega)]
 have hn : H s.heap.objs.size = none := I.hok.fresh (Nat.le_refl _)
 refine ⟨.ref s.heap.objs.size,_,?_,rfl,q _ hn⟩
 refine I.laid (fun b o e => Heap.get?_push_of_some _ e) (Nat.le_refl _) ⟨by simp only [List.length_cons,List.length_nil]; rw [sizeLine_eq]; decide,[.int (i / j) s.toks,.int (i % j) (s.toks + 1)],.cons ⟨_,rfl⟩ (.cons ⟨_,rfl⟩ .nil),?_⟩
 exact ⟨_,Heap.get?_push_size s.heap rfl,rfl,0,rfl⟩
end
end L2
namespace L2
open PySem PySem.Spec PyProof.Rows
structure ObjM (h : Heap) (x dx C : Addr) (mA : Str -> Option Value) : Prop where
 obj : h.get? x = some (PySem.W.instObj C dx)
 ns : h.Ns1 dx mA
 ne : dx ≠ x
section
variable {prog : Program} {w : World} {A : Around} {E : Value -> Shared -> Prop} {s : Shared} {K : PySem.W.Frag} {x dx C f : Addr} {mA : Str -> Option Value} {name : Str} {v : Value}
end
section
variable {P : Program} {w : World} {H H' : Hp} {h h' : Heap} {a C dx : Addr} {fs fs' : List (Str × V)}
end
structure L4 (K : PySem.W.Frag) (C : Addr) : Prop where
 pg : PySem.W.plainGet K C Str.empty = true
 hd : PySem.W.hasDictIn K C = true
 po : PySem.W.plainOver K C = true
 sa : PySem.W.findIn K (.ref C) "__setattr__" = some (some (.builtin "object.__setattr__"))
structure Con (K : PySem.W.Frag) (C : Addr) (f : Str) (v : V) (u : Value) : Prop where
 at_ : PySem.W.findIn K (.ref C) f = some (some u)
 rel : Ay v u
 get : PySem.W.specialIn K u "__get__" = some none
 cp : PySem.W.copiedNames.contains f = false
structure Meth (K : PySem.W.Frag) (C : Addr) (m : Str) (f : Addr) : Prop where
 at_ : PySem.W.findIn K (.ref C) m = some (some (.ref f))
 fn : PySem.W.isFn K (.ref f) = true
 kp : PySem.W.keepIn K (.ref f) = true
section
variable {X : Cx} {pins : List (Addr × Obj)} {σ : St} {H : Hp} {s : Shared} {a C dx : Addr} {fs : List (Str × V)} {f : Str} {v : V} {A : Around} {E : Value -> Shared -> Prop}
end
section
variable {X : Cx} {o e value : Expr} {f : Str} {pos pos' tpos : Pos} {ta tv : TE}
end
section
variable {X : Cx} {pins : List (Addr × Obj)} {σ : St} {H : Hp} {s : Shared} {A : Around} {E : Value -> Shared -> Prop} {Q : Value -> Shared -> Prop} {c : Value} {b : Bool}
inductive Cu (K : PySem.W.Frag) (H : Hp) : V -> Value -> Prop where
 | non : Cu K H .non (.type "NoneType")
 | bl (x : Bool) : Cu K H (.bl x) (.type "bool")
 | int (i : Int) : Cu K H (.int i) (.type "int")
 | str (x : Str) : Cu K H (.str x) (.type "str")
 | flt (x : UInt64) : Cu K H (.flt x) (.type "float")
 | lst {a : Addr} {xs : List V} (e : H a = some (.lst xs)) : Cu K H (.ref a) (.type "list")
 | frz {a : Addr} {o : Obj} {xs : List V} (e : H a = some (.frz o (.lst xs))) : Cu K H (.ref a) (.type "list")
 | tup {a : Addr} {xs : List V} (e : H a = some (.tup xs)) : Cu K H (.ref a) (.type "tuple")
 | dK {a : Addr} {kvs : List (AT × V)} (e : H a = some (.dK kvs)) : Cu K H (.ref a) (.type "dict")
 | dT {a : Addr} {kvs : List (List AT × V)} (e : H a = some (.dT kvs)) : Cu K H (.ref a) (.type "dict")
 | ins {a C dx : Addr} {fs : List (Str × V)} (e : H a = some (.ins C dx fs)) (cl : L4 K C) (ha : PySem.W.findIn K (.ref C) "__class__" = some (some (.builtin "object.__class__")))
   (hn : PySem.W.specialIn K (.builtin "object.__class__") "__get__" = some (some (.builtin "getset_descriptor.__get__"))) (htk : PySem.W.takesIn K (.builtin "object.__class__") = some true)
   (hm : PySem.W.mroIn K C (.type "object") = some true) : Cu K H (.ref a) (.ref C)
end
end L2
namespace L2
open PySem PySem.Spec PyProof.Rows
variable {Q : VK} {us : List Value} {vs : List V} {P : Program} {kindOf : Str -> Option NameKind} {qual : Str} {scope : Scope}
structure Bf (k : Nat) (A : Around) : Prop where
 hd : A.handled = none
 dp : A.depth + 3 * k + 5 < recursionLimit
 un : A.units + 16 * k + 200 < cLine
 gd : A.guards = some []
theorem Bf.mono {j k : Nat} {A : Around} (r : Bf k A) (h : j <= k) : Bf j A := ⟨r.hd,by have := r.dp; omega,by have := r.un; omega,r.gd⟩
theorem Bf.deeper {k : Nat} {A : Around} (r : Bf (k + 1) A) (env : Env) : Bf k (A.deeper env) :=
 ⟨r.hd,by have := r.dp; show A.depth + 1 + 3 * k + 5 < _; omega,by have := r.un; show A.units + 3 + 16 * k + 200 < _; omega,r.gd⟩
theorem Bf.depth {k : Nat} {A : Around} (r : Bf k A) : A.depth < recursionLimit := by have := r.dp; omega
theorem Bf.units0 {k : Nat} {A : Around} (r : Bf k A) : A.units < cLine := by have := r.un; omega
def CT : TA := fun _ H Q => Q [] H
def Bm (ta : TE) (tr : TA) : TA := fun σ H Q => ta σ H fun x H1 => tr σ H1 fun xs H2 => Q (x :: xs) H2
section
variable {X : Cx} {e : Expr} {es : List Expr} {te : TE} {t : TA} {pos : Pos}
theorem BV : PA X [] CT := fun _ _ _ _ H Q I h => Calls.spliced_nil ⟨[],H,I,.nil,h⟩
theorem Fx (ha : PE X e te) (hr : PA X es t) (hs : starEach (e :: es) X.env = (false,eval e X.env) :: starEach es X.env := by rfl) : PA X (e :: es) (Bm te t) := by
 intro pos pins s σ H Q I h
 rw [hs]
 show wpAny _ _ (spliced ((false,eval e X.env) :: backTo pos (starEach es X.env))) _ _ s
 refine Calls.spliced_cons (An (ha pins s σ H _ I h) fun u s1 ⟨x,H1,I1,r1,q1⟩ => ?_)
 exact An (hr pos pins s1 σ H1 _ I1 q1) fun us s2 ⟨xs,H2,I2,r2,q2⟩ => ⟨x :: xs,H2,I2,.cons r1 r2,q2⟩
end
abbrev Sp := List V -> Hp -> VK -> XK -> Prop
abbrev Ce := List Env -> Hp -> Shared -> XK -> Value -> Shared -> Prop
structure DX (P : Program) (w : World) (K : PySem.W.Frag) (mg : Str -> Option Value) (base : Heap) (A : Around) (outer : List Env) (s : Shared) (H : Hp) : Prop where
 frames : A.frames = some outer
 mod : Mod K mg base
 bs : ∀ b o,base.get? b = some o -> s.heap.get? b = some o /\ H b = none
 bsz : base.objs.size <= s.heap.objs.size
 funs : s.heap.FunFrames base outer
 frf : ∀ b ∈ Bx outer,H b = none
 hok : HOk P w H s.heap
 bare : AllBare s.gens
def CE (outer : List Env) (P : Program) (w : World) (H : Hp) (s : Shared) (Q : VK) (u : Value) (s' : Shared) : Prop :=
 ∃ v H',s'.os = s.os /\ AllBare s'.gens /\ Un (Bx outer) [] H H' s.heap s'.heap /\ HOk P w H' s'.heap /\ Ay v u /\ Q v H'
def CR (CX : Ce) (outer : List Env) (P : Program) (w : World) (H : Hp) (s : Shared) (Q : VK) (E : XK) (r : Result) (s' : Shared) : Prop :=
 match r with
 | .ok (.ret u) => CE outer P w H s Q u s'
 | .ok _ => False
 | .error e => CX outer H s E e s'
structure Cv (P : Program) (w : World) (K : PySem.W.Frag) (mg : Str -> Option Value) (base : Heap) (CX : Ce) (k : Nat) (f : Addr) (fd : FuncData) (ps : List Str) (sp : Sp) : Prop where
 len : ∀ vs H Q E,sp vs H Q E -> vs.length = ps.length
 run : ∀ (A : Around) (outer : List Env) (s : Shared) (H : Hp) (args : Args) (us : List Value) (vs : List V) (Q : VK) (E : XK),Bf k A -> DX P w K mg base A outer s H -> BindsTo s fd args (ps.zip us) -> Ar vs us -> sp vs H Q E ->
  codeAny (model P w) A (.call (.ref f) args) (CR CX outer P w H s Q E) s
section
variable {X : Cx} {pins : List (Addr × Obj)} {σ : St} {H : Hp} {s s' : Shared}
theorem Ae.env0 (I : Ae X pins σ H s) : DX X.prog X.w X.K X.mg X.base X.A X.stack s H :=
 ⟨I.ok.frames,I.ok.mod,I.bs,Nat.le_trans I.ok.bsz I.sz,I.stack,I.stkFree,I.hok,I.bare⟩
theorem Ae.after {u : Value} (I : Ae X pins σ H s) (h : CE X.stack X.prog X.w H s Q u s') : EP X pins σ Q u s' := by
 obtain ⟨v,H',os,bare,un,hok,r,q⟩ := h
 obtain ⟨hh,g,d,t,os'⟩ := s'
 obtain rfl : os' = s.os := os
 exact ⟨v,H',I.call (h' := hh) (g' := g) (d' := d) (t' := t) (ch := []) un hok bare (fun b z => absurd z (by simp)),r,q⟩
end
def L5 (sp : Sp) (dvs : List V) (E : XK) (t : TA) : TE := fun σ H Q => t σ H fun vs H1 => sp (vs ++ dvs) H1 Q E
def Binds (K : PySem.W.Frag) (fd : FuncData) (ps : List Str) (ds : List Value) : Prop :=
 ∀ (s : Shared) (us : List Value),K.In s.heap -> (us ++ ds).length = ps.length -> BindsTo s fd ⟨us,[]⟩ (ps.zip (us ++ ds))
theorem Binds.all {K : PySem.W.Frag} {fd : FuncData} {ps : List Str} (h : ∀ us : List Value,us.length = ps.length -> bindArgs fd ⟨us,[]⟩ = pure (ps.zip us)) : Binds K fd ps [] := fun s us _ hl => by
 rw [List.append_nil] at hl ⊢
 exact .of_eq (h us hl)
def He (CX : Ce) (X : Cx) (E : XK) : Prop := ∀ (pins : List (Addr × Obj)) (σ : St) (H : Hp) (s : Shared) (e : Value) (s' : Shared),Ae X pins σ H s -> CX X.stack H s E e s' -> X.xe e s'
section
variable {X : Cx} {CX : Ce} {k : Nat} {f C : Addr} {fd : FuncData} {ps : List Str} {sp : Sp} {dvs : List V} {ds : List Value} {E : XK} {x m : Str} {p pos apos : Pos} {e o : Expr} {es : List Expr} {ta : TE} {t : TA}
theorem L6 {pins : List (Addr × Obj)} {σ : St} {H : Hp} {s : Shared} (F : Cv X.prog X.w X.K X.mg X.base CX k f fd ps sp) (hr : Bf k X.A) (hb : Binds X.K fd ps ds) (hd : Ar dvs ds) (hx : He CX X E)
  (I : Ae X pins σ H s) (r : Ar vs us) (h : sp (vs ++ dvs) H Q E) : wpAny (model X.prog X.w) X.A (call (.ref f) us) (EP X pins σ Q) X.xe s := by
 have r2 : Ar (vs ++ dvs) (us ++ ds) := r.append hd
 have hl : (us ++ ds).length = ps.length := by rw [<- r2.length]; exact F.len _ _ _ _ h
 refine wpAny_call (codeAny_mono (F.run X.A X.stack s H ⟨us,[]⟩ (us ++ ds) (vs ++ dvs) Q E hr I.env0 (hb s us I.kIn hl) r2 h) fun r s' hq => ?_)
 cases r with
 | error e => exact hx pins σ H s e s' I hq
 | ok fl =>
  cases fl with
  | ret u => exact I.after hq
  | next => exact False.elim hq
  | brk => exact False.elim hq
  | cont => exact False.elim hq
theorem L7 (F : Cv X.prog X.w X.K X.mg X.base CX k f fd ps sp) (hr : Bf k X.A) (hg : Gl X x) (hm : X.mg x = some (.ref f)) (hk : PySem.W.keepIn X.K (.ref f) = true) (hb : Binds X.K fd ps ds) (hd : Ar dvs ds) (hx : He CX X E)
  (ha : PA X (e :: es) t) (hdb : (x == ("__debug__" : Str)) = false := by decide) (he : starEach (e :: es) X.env = (false,eval e X.env) :: starEach es X.env := by rfl) (hpl : (backTo pos (starEach es X.env)).any (·.1) = false := by rfl) :
  PE X (.Call (.Name x p) (e :: es) [] pos) (L5 sp dvs E t) := by
 intro pins s σ H Q I h
 refine wpAny_Call_Name_kw (Iw I hg hm ?_ hdb)
 refine PySem.W.callWith_K (h₀ := X.base) I.ok.mod.kin hk (An (ha pos pins s σ H _ I h) fun us s1 ⟨vs,H1,I1,r,q⟩ => ⟨I1.kIn,?_⟩) he hpl
 exact L6 F hr hb hd hx I1 r q
structure Mk (K : PySem.W.Frag) (C f : Addr) : Prop where
 makes : PySem.W.makesIn K C = true
 init : PySem.W.findIn K (.ref C) "__init__" = some (some (.ref f))
 fn : PySem.W.isFn K (.ref f) = true
 kp : PySem.W.keepIn K (.ref C) = true
end
section
variable {X : Cx} {CX : Ce} {k : Nat} {f C : Addr} {fd : FuncData} {ps ks : List Str} {sp : Sp} {E : XK} {x m : Str} {p pos apos kpos : Pos} {e o : Expr} {es : List Expr} {kws : List Keyword} {te ta : TE} {t tk : TA} {nm : Option Str}
structure KBinds (K : PySem.W.Frag) (fd : FuncData) (ps ks : List Str) (g : List Value -> List Value -> List Value) (gV : List V -> List V -> List V) : Prop where
 to : ∀ (s : Shared) (us ws : List Value),K.In s.heap -> (g us ws).length = ps.length -> BindsTo s fd ⟨us,ks.zip ws⟩ (ps.zip (g us ws))
 rel : ∀ {vs : List V} {us : List Value} {zs : List V} {ws : List Value},Ar vs us -> Ar zs ws -> Ar (gV vs zs) (g us ws)
variable {g : List Value -> List Value -> List Value} {gV : List V -> List V -> List V}
end
structure Aw (N P : List Str) (sc : Scope) : Prop where
 kind : sc.kind = .function
 co : sc.isCoroutine = false
 gen : sc.isGenerator = false
 nd : N.Nodup
 pre : N.take P.length = P
 par : ∀ x ∈ P,sc.names.lookup x = some .local \/ sc.names.lookup x = some .cell
 nofree : ∀ y ∈ sc.names,y.2 ≠ .free
theorem Ax {N P : List Str} {sc : Scope} (a : sc.kind = .function := by rfl) (b : sc.isCoroutine = false := by rfl) (c : sc.isGenerator = false := by rfl) (d : N.Nodup := by decide +kernel) (e : N.take P.length = P := by rfl) (f : ∀ x ∈ P,sc.names.lookup x = some .local \/ sc.names.lookup x = some .cell := by decide +kernel) (g : ∀ y ∈ sc.names,y.2 ≠ .free := by decide +kernel) : Aw N P sc := ⟨a,b,c,d,e,f,g⟩
theorem IS {x : Str} : ∀ {binds : List (Str × Value)} {m : Str -> Option Value},(∀ v,(x,v) ∉ binds) -> bindL kindOf binds m x = m x
  | [],_,_ => rfl
  | (n, v) :: r, m, h => by
    unfold bindL
    rw [IS fun w hw => h w (List.mem_cons_of_mem _ hw)]
    split
    . have : x ≠ n := by rintro rfl; exact h v List.mem_cons_self
      simp [this]
    . rfl
theorem IT {x : Str} : ∀ {binds : List (Str × Value)} {m : Str -> Option Value},(∀ v,(x,v) ∉ binds) -> bindC kindOf binds m x = m x
  | [],_,_ => rfl
  | (n, v) :: r, m, h => by
    unfold bindC
    rw [IT fun w hw => h w (List.mem_cons_of_mem _ hw)]
    split
    . rfl
    . have : x ≠ n := by rintro rfl; exact h v List.mem_cons_self
      simp [this]
theorem IU {kindOf : Str -> Option NameKind} {x : Str} {v : Value} : ∀ {P : List Str} {vs : List Value} {i : Nat} {m : Str -> Option Value},P.Nodup -> P[i]? = some x -> vs[i]? = some v -> kindOf x = some .local ->
  bindL kindOf (P.zip vs) m x = some v
 | [],_,_,_,_,h,_,_ => by simp at h
 | _ :: _,[],_,_,_,_,h,_ => by simp at h
 | p :: P,w :: vs,0,m,nd,h1,h2,hk => by
  simp at h1 h2; subst h1; subst h2
  show bindL kindOf ((p,w) :: P.zip vs) m p = _
  unfold bindL
  rw [IS fun v hv => (List.nodup_cons.mp nd).1 (List.of_mem_zip hv).1,if_pos hk]
  simp
 | p :: P,w :: vs,i + 1,m,nd,h1,h2,hk => by
  show bindL kindOf ((p,w) :: P.zip vs) m x = _
  unfold bindL
  exact IU (i := i) (List.nodup_cons.mp nd).2 (by simpa using h1) (by simpa using h2) hk
theorem IV {kindOf : Str -> Option NameKind} {x : Str} {v : Value} : ∀ {P : List Str} {vs : List Value} {i : Nat} {m : Str -> Option Value},P.Nodup -> P[i]? = some x -> vs[i]? = some v -> kindOf x ≠ some .local ->
  bindC kindOf (P.zip vs) m x = some v
 | [],_,_,_,_,h,_,_ => by simp at h
 | _ :: _,[],_,_,_,_,h,_ => by simp at h
 | p :: P,w :: vs,0,m,nd,h1,h2,hk => by
  simp at h1 h2; subst h1; subst h2
  show bindC kindOf ((p,w) :: P.zip vs) m p = _
  unfold bindC
  rw [IT fun v hv => (List.nodup_cons.mp nd).1 (List.of_mem_zip hv).1,if_neg hk]
  simp
 | p :: P,w :: vs,i + 1,m,nd,h1,h2,hk => by
  show bindC kindOf ((p,w) :: P.zip vs) m x = _
  unfold bindC
  exact IV (i := i) (List.nodup_cons.mp nd).2 (by simpa using h1) (by simpa using h2) hk
def start (N : List Str) (vs : List V) : St := vs.map some ++ List.replicate (N.length - vs.length) none
def Dy (CX : Ce) (P : Program) (w : World) (K : PySem.W.Frag) (mg : Str -> Option Value) (base : Heap) (N : List Str) (qual : Str) (scope : Scope) (f : Addr) (cd : Value) (A : Around) (outer : List Env) (s : Shared) (H : Hp) (E : XK) : Cx where
 prog := P
 w := w
 K := K
 mg := mg
 base := base
 A := A.deeper (envOfC qual scope s.heap.objs.size f cd)
 N := N
 s₀ := s
 H₀ := H
 env := envOfC qual scope s.heap.objs.size f cd
 outer := outer
 stack := envOfC qual scope s.heap.objs.size f cd :: outer
 ex := []
 calm := true
 fn := fun _ => true
 pn := []
 xe := fun e s' => wpAny (model P w) (A.deeper (envOfC qual scope s.heap.objs.size f cd)) (leaving (envOfC qual scope s.heap.objs.size f cd) e) (fun _ s'' => CX outer H s E e s'') (fun e' s'' => CX outer H s E e' s'') s'
theorem IW {sc : Scope} {n : Nat} {x : Str} (h : sc.names.lookup x = some .cell) : ∃ c,(cellsFrom n sc.names []).lookup x = some c := by
 have q := PySem.W.cellsFrom_some sc.names n [] (.inl h)
 exact Option.isSome_iff_exists.mp q
theorem L8 {CX : Ce} {w : World} {K : PySem.W.Frag} {mg : Str -> Option Value} {base : Heap} {N ps : List Str} {f : Addr} {cd : Value} {A : Around} {outer : List Env} {s s1 : Shared} {H : Hp} {E : XK}
  (S : Aw N ps scope) (hd : A.handled = none) (e0 : DX P w K mg base A outer s H) (hl : vs.length = ps.length) (r : Ar vs us)
  (x : InCallC s s.heap.objs.size (bindL (envOfC qual scope s.heap.objs.size f cd).kindOf (ps.zip us) fun _ => none) (cellsFrom (s.heap.objs.size + 1) scope.names []) (bindC (envOfC qual scope s.heap.objs.size f cd).kindOf (ps.zip us) fun _ => none) s1) :
  Ae (Dy CX P w K mg base N qual scope f cd A outer s H E) [] (start N vs) H s1 := by
 have hpl : ps.length <= N.length := by have := congrArg List.length S.pre; rw [List.length_take] at this; omega
 obtain ⟨h1,tk,rfl,hk⟩ := x.done
 have noA : ∀ b : Addr,b ∉ (Dy CX P w K mg base N qual scope f cd A outer s H E).ex := fun b z => absurd (show b ∈ ([] : List Addr) from z) (by simp)
 refine ⟨⟨e0.mod,S.kind,rfl,rfl,Nat.le_refl _,fun y z c h1 h2 => ?_,fun y hy => ?_,fun y c _ h => ?_,fun _ => hd,Around.frames_deeper e0.frames,.inr ⟨rfl,rfl⟩,fun b z => absurd z (noA b),e0.bs,e0.bsz,fun b _ _ => noA b,fun b z => absurd z (noA b),e0.funs,e0.frf⟩,
  rfl,e0.bare,Un.kept hk,⟨_,x.toInCall.ns,fun i y v h1 h2 h3 => ?_⟩,fun y c h => ⟨_,x.cell y c h⟩,e0.hok.fresh (Nat.le_refl _),fun y c h => ?_,fun p hp => absurd (show p ∈ ([] : List (Addr × Obj)) from hp) (by simp),e0.hok.kept hk,?_⟩
 ·exact name_of_addr x.apart (PySem.mem_of_lookup h1) (PySem.mem_of_lookup h2)
 ·have hy : scope.names.lookup y = some .cell \/ scope.names.lookup y = some .free := hy
  rcases hy with hy | hy
  ·exact IW hy
  ·exact absurd rfl (S.nofree _ (PySem.mem_of_lookup hy))
 ·exact Nat.le_of_lt (x.above y c (PySem.mem_of_lookup h))
 ·have hi : i < vs.length := by
   unfold start at h2
   by_cases hi : i < vs.length
   ·exact hi
   ·rw [List.getElem?_append_right (by simpa using hi)] at h2
    rw [List.getElem?_replicate] at h2
    split at h2 <;> cases h2
  have ha : vs[i]? = some v := by
   unfold start at h2
   rw [List.getElem?_append_left (by simpa using hi),List.getElem?_map] at h2
   cases e : vs[i]? with
   | none => rw [e] at h2; cases h2
   | some a => rw [e] at h2; cases h2; rfl
  obtain ⟨u,hu,rv⟩ := r.get ha
  have hp : ps[i]? = some y := by
   rw [<- S.pre,List.getElem?_take_of_lt (by omega)]; exact h1
  have ndP : ps.Nodup := by rw [<- S.pre]; exact S.nd.sublist (List.take_sublist _ _)
  refine ⟨u,rv,?_⟩
  rcases S.par y (List.mem_of_getElem? hp) with k | k
  ·exact .inl ⟨k,IU ndP hp hu k⟩
  ·obtain ⟨c,e⟩ := IW (n := s.heap.objs.size + 1) k
   refine .inr ⟨.inl k,c,e,?_⟩
   have q := x.cell y c e
   rw [IV ndP hp hu (by show scope.names.lookup y ≠ _; rw [k]; decide)] at q
   exact q
 ·exact e0.hok.fresh (Nat.le_of_lt (x.above y c (PySem.mem_of_lookup h)))
 ·unfold start
  show _ = N.length
  rw [List.length_append,List.length_map,List.length_replicate]
  omega
theorem L9 {CX : Ce} {w : World} {K : PySem.W.Frag} {mg : Str -> Option Value} {base : Heap} {k : Nat} {f : Addr} {name : Str} {params : Arguments} {body : List Stmt} {dV kV doc pm cdv ct oc : Value} {an od : Option Addr}
  {osl : Array (Option Value)} {N ps : List Str} {sp : Sp} (lk : K.lookup f = some ⟨oc,od,.func (PySem.W.fnOf name qual params body scope dV kV doc pm an cdv ct),osl⟩) (hcd : PySem.W.codeIn K cdv qual = true) (S : Aw N ps scope)
  (len : ∀ vs H Q E,sp vs H Q E -> vs.length = ps.length)
  (hbody : ∀ (A : Around) (outer : List Env) (s : Shared) (H : Hp) (vs : List V) (Q : VK) (E : XK), Bf k (A.deeper (envOfC qual scope s.heap.objs.size f cdv)) -> sp vs H Q E ->
   ∃ t,PSs (Dy CX P w K mg base N qual scope f cdv A outer s H E) body t /\ t { nx := fun _ H' => Q .non H',rt := Q } (start N vs) H) :
  Cv P w K mg base CX (k + 1) f (PySem.W.fnOf name qual params body scope dV kV doc pm an cdv ct) ps sp := by
 refine ⟨len,fun A outer s H args us vs Q E hr e0 hb r hsp => ?_⟩
 have hl := len _ _ _ _ hsp
 have KX : K.In s.heap := e0.mod.kin.keeps fun b o e => (e0.bs b o e).1
 have lim : s.heap.NoLimit := e0.mod.nolimit.keeps fun b o e => (e0.bs b o e).1
 have hkind : ∀ y ∈ ps.zip us,scope.names.lookup y.1 = some .local \/ (scope.names.lookup y.1 = some .cell /\ ((cellsFrom (s.heap.objs.size + 1) scope.names []).lookup y.1).isSome = true) := fun ⟨n,v⟩ hy => by
  rcases S.par n (List.of_mem_zip hy).1 with q | q
  ·exact .inl q
  ·exact .inr ⟨q,PySem.W.cellsFrom_some _ _ _ (.inl q)⟩
 refine codeAny_call_function hr.depth (KX _ _ lk) rfl S.co S.gen rfl (PySem.W.codeRec_of KX hcd) (hb _ _ _ _ ?_)
 refine wpAny_newFunctionEnv_cells S.kind hkind fun env he s1 x => ?_
 subst he
 refine ⟨lim.keeps x.toInCall.keep,codeAny_func ?_⟩
 obtain ⟨t,ht,hq⟩ := hbody A outer s H vs Q E (hr.deeper _) hsp
 have I : Ae (Dy CX P w K mg base N qual scope f cdv A outer s H E) [] (start N vs) H s1 := L8 S hr.hd e0 hl r x
 refine wpAny_mono (ht [] s1 (start N vs) H _ I hq) (fun fl s' hs => ?_) fun e s' hs => hs
 have fin : ∀ {σ' : St} {H' : Hp} {v : V} {u : Value},Ae (Dy CX P w K mg base N qual scope f cdv A outer s H E) [] σ' H' s' -> Ay v u -> Q v H' -> CE outer P w H s Q u s' :=
  fun {σ' H' v u} J rv q => ⟨v,H',J.os,J.bare,J.base,J.hok,rv,q⟩
 cases fl with
 | ret u =>
  obtain ⟨v,σ',H',J,rv,q⟩ := hs
  exact fin J rv q
 | next =>
  obtain ⟨σ',H',J,q⟩ := hs
  exact fin (v := V.non) (u := Value.none) J rfl q
 | brk =>
  obtain ⟨_,_,_,q⟩ := hs
  exact False.elim q
 | cont =>
  obtain ⟨_,_,_,q⟩ := hs
  exact False.elim q
end L2
namespace L2
open PySem PySem.Spec PyProof.Rows
section
variable {X : Cx} {x : Str} {p pos : Pos} {e : Expr} {es : List Expr} {t : TA} {id T : String} {r : List V -> Hp -> VK -> Prop}
def IY (r : List V -> Hp -> VK -> Prop) (t : TA) : TE := fun σ H Q => t σ H fun vs H1 => r vs H1 Q
theorem AB (hc : BL X (.builtin id) r) (hg : Gl X x) (hm : X.mg x = none) (hv : bootBuiltins x = some (.builtin id)) (ha : PA X (e :: es) t) (hn : x ≠ "__name__" := by decide) (hdb : (x == ("__debug__" : Str)) = false := by decide)
  (he : starEach (e :: es) X.env = (false,eval e X.env) :: starEach es X.env := by rfl) (hpl : (backTo pos (starEach es X.env)).any (·.1) = false := by rfl) : PE X (.Call (.Name x p) (e :: es) [] pos) (IY r t) := by
 intro pins s σ H Q I h
 refine wpAny_Call_Name_kw (Cb I hg hm hv ?_ hn hdb)
 exact PyProof.Rows.callWith_builtin1 (An (ha pos pins s σ H _ I h) fun us s1 ⟨vs,H1,I1,r1,q1⟩ => hc pins s1 σ H1 vs us Q I1 r1 q1) he hpl
theorem Bi (hc : BL X (.type T) r) (hg : Gl X x) (hm : X.mg x = none) (hv : bootBuiltins x = some (.type T)) (ha : PA X (e :: es) t) (hn : x ≠ "__name__" := by decide) (hdb : (x == ("__debug__" : Str)) = false := by decide)
  (he : starEach (e :: es) X.env = (false,eval e X.env) :: starEach es X.env := by rfl) (hpl : (backTo pos (starEach es X.env)).any (·.1) = false := by rfl) : PE X (.Call (.Name x p) (e :: es) [] pos) (IY r t) := by
 intro pins s σ H Q I h
 refine wpAny_Call_Name_kw (Cb I hg hm hv ?_ hn hdb)
 exact PyProof.Rows.callWith_type1 (An (ha pos pins s σ H _ I h) fun us s1 ⟨vs,H1,I1,r1,q1⟩ => hc pins s1 σ H1 vs us Q I1 r1 q1) he hpl
end
end L2
namespace HT
open PySem PyProof.Rows
variable {sl : Addr} {vl vu : Value}
section
open PySem.SeqAt
open PySem.AutoSeq1 (wpAny_loadPart')
open PySem.MeetsSeq PySem.MeetsSeq2 PySem.MeetsSeq3
end
section
variable {prog : Program} {w : World} {A : Around} {E : Value -> Shared -> Prop} {s : Shared}
def sIx (n d : Nat) : Option Int -> Nat
 | none => d
 | some v => if v < 0 then (v + (n : Int)).toNat else min v.toNat n
theorem sIx_nat (n d k : Nat) : sIx n d (some (k : Int)) = min k n := by
 show (if (k : Int) < 0 then ((k : Int) + (n : Int)).toNat else min (k : Int).toNat n) = min k n
 rw [if_neg (by omega),Int.toNat_natCast]
theorem Ma (n d : Nat) (hd : d <= n) (o : Option Int) : sIx n d o <= n := by
 cases o with
 | none => exact hd
 | some v =>
  show (if v < 0 then (v + (n : Int)).toNat else min v.toNat n) <= n
  by_cases hv : v < 0
  ·rw [if_pos hv]; omega
  ·rw [if_neg hv]; exact Nat.min_le_right _ _
theorem IZ (v : Int) (n d : Nat) : (if v < 0 then max (v + (n : Int)) 0 else min v (n : Int)) = ((sIx n d (some v) : Nat) : Int) := by
 show (if v < 0 then max (v + (n : Int)) 0 else min v (n : Int)) = (((if v < 0 then (v + (n : Int)).toNat else min v.toNat n) : Nat) : Int)
 by_cases hv : v < 0
 ·simp only [if_pos hv]; omega
 ·simp only [if_neg hv]; omega
theorem Mb (lo hi : Option Int) (n : Nat) : Builtin.Slice.sliceAdjust lo hi 1 (n : Int) = (((sIx n 0 lo : Nat) : Int),((sIx n n hi : Nat) : Int)) := by
 have h1 : ¬ ((1 : Int) < 0) := by omega
 unfold Builtin.Slice.sliceAdjust
 simp only [h1,if_false]
 refine Prod.ext ?_ ?_
 ·cases lo with
  | none => rfl
  | some v => exact IZ v n 0
 ·cases hi with
  | none => rfl
  | some v => exact IZ v n n
theorem Mc (i j : Nat) : Builtin.Slice.slicePlaces (i : Int) (j : Int) 1 = j - i := by
 unfold Builtin.Slice.slicePlaces
 have h1 : (1 : Int) > 0 := by omega
 simp only [h1,if_true,Int.ediv_one]
 split <;> omega
theorem I8 {v : Value} {o : Option Int} {Q : Option Int -> Shared -> Prop} (p : IsPart v o) (h : Q o s) : wpAny (model prog w) A (Builtin.Slice.slicePartIndex v) Q E s := by
 cases p with
 | none => exact slicePart_none h
 | int i t => exact slicePart_int h
theorem sliceApplied_gen {lo hi : Option Int} {n : Nat} {Q : Int × Int × Nat -> Shared -> Prop} (hs : s.heap.IsSliceOf sl vl vu .none) (pl : IsPart vl lo) (pu : IsPart vu hi)
  (h : Q (((sIx n 0 lo : Nat) : Int),1,sIx n n hi - sIx n 0 lo) s) : wpAny (model prog w) A (Builtin.Slice.sliceApplied (.ref sl) (pure (n : Int))) Q E s := by
 obtain ⟨os,hos,hcs,hds⟩ := id hs
 unfold Builtin.Slice.sliceApplied Builtin.Slice.sliceFields
 refine wpAny_bind (wpAny_bind (wpAny_field hos hds (x := vl) rfl (wpAny_bind (wpAny_field hos hds (x := vu) rfl (wpAny_bind (wpAny_field hos hds (x := .none) rfl (wpAny_pure ?_)))))))
 refine wpAny_bind (slicePart_none ?_)
 show wpAny _ _ (if ((1 : Int) == 0) = true then _ else _) _ _ s
 rw [if_neg (by decide)]
 refine wpAny_bind (I8 pl (wpAny_bind (I8 pu (wpAny_bind (wpAny_pure ?_)))))
 show wpAny _ _ (match Builtin.Slice.sliceAdjust lo hi 1 (n : Int) with | (lo,hi) => pure (lo,(1 : Int),Builtin.Slice.slicePlaces lo hi 1)) _ _ s
 rw [Mb lo hi n]
 show wpAny _ _ (pure (((sIx n 0 lo : Nat) : Int),(1 : Int),Builtin.Slice.slicePlaces ((sIx n 0 lo : Nat) : Int) ((sIx n n hi : Nat) : Int) 1)) _ _ s
 rw [Mc]
 exact wpAny_pure h
theorem Md (xs : Array Value) (i k : Nat) : ((List.range k).filterMap fun (m : Nat) => xs[((i : Int) + (m : Int) * 1).toNat]?).toArray = ((xs.toList.drop i).take k).toArray := by
 have e : (fun (m : Nat) => xs[((i : Int) + (m : Int) * 1).toNat]?) = fun m => xs[i + m]? := by
  funext m
  have : ((i : Int) + (m : Int) * 1).toNat = i + m := by omega
  rw [this]
 rw [e]
 have := pick_run xs i k
 rw [List.filterMap_map] at this
 have e2 : ((fun x => xs[x]?) ∘ fun x => i + x) = fun m => xs[i + m]? := rfl
 rw [e2] at this
 rw [this]
theorem getItem_tuple_cut {t : Addr} {items : Array Value} {lo hi : Option Int} {Q : Value -> Shared -> Prop} (ht : IsTup s.heap t items) (hs : s.heap.IsSliceOf sl vl vu .none) (pl : IsPart vl lo) (pu : IsPart vu hi)
  (hw : ¬ (sIx items.size 0 lo = 0 /\ sIx items.size items.size hi = items.size))
  (h : Q (.ref s.heap.objs.size) { s with heap := s.heap.push { cls := .type "tuple",data := .seq ((items.toList.drop (sIx items.size 0 lo)).take (sIx items.size items.size hi - sIx items.size 0 lo)).toArray } })
  (hsz : items.size <= sizeLine) : wpAny (model prog w) A (getItem (.ref t) (.ref sl)) Q E s := by
 have htake : sizeOk (.seq ((items.toList.drop (sIx items.size 0 lo)).take (sIx items.size items.size hi - sIx items.size 0 lo)).toArray) := by
  show ((items.toList.drop (sIx items.size 0 lo)).take (sIx items.size items.size hi - sIx items.size 0 lo)).toArray.size <= sizeLine
  rw [List.size_toArray,List.length_take,List.length_drop,Array.length_toList]
  omega
 have hj : sIx items.size items.size hi <= items.size := Ma _ _ (Nat.le_refl _) hi
 obtain ⟨os,hos,hcs,hds⟩ := id hs
 have hTs : s.TypeIs (.ref sl) "slice" := ⟨os,hos,hcs⟩
 unfold getItem
 try with_reducible refine wpAny_holding ?_
 first | refine wpAny_bind (wpAny_pure ?_) | skip
 refine wpAny_bind (wpAny_sequenceKey ht.typeIs (by decide) ?_)
 refine wpAny_bind (wpAny_callSpecial?_slot (name := Str.ofString "__getitem__") ht.typeIs PyProof.Rows.slot_tuple_getitem
  (wpAny_call_entry PyProof.Rows.slot_tuple_getitem ht.typeIs entry_tuple_getitem ?_ (args_tuple_getitem _ _)))
 show wpAny _ _ (Builtin.Tuple.tupleItemsOf (.ref t) >>= _) _ _ s
 refine wpAny_bind (tupleItemsOf_ ht ?_)
 refine wpAny_bind (wpAny_typeOf hTs ?_)
 rw [if_pos (by decide)]
 refine wpAny_bind (sliceApplied_gen hs pl pu ?_)
 have hno : ¬ ((((sIx items.size 0 lo : Nat) : Int) == 0 && (1 : Int) == 1 && (sIx items.size items.size hi - sIx items.size 0 lo) == items.size) = true) := by
  intro q
  rw [Bool.and_eq_true,Bool.and_eq_true] at q
  have q1 : ((sIx items.size 0 lo : Nat) : Int) = 0 := eq_of_beq q.1.1
  have q2 : sIx items.size items.size hi - sIx items.size 0 lo = items.size := eq_of_beq q.2
  exact hw ⟨by omega,by omega⟩
 show wpAny _ _ (if (((sIx items.size 0 lo : Nat) : Int) == 0 && (1 : Int) == 1 && (sIx items.size items.size hi - sIx items.size 0 lo) == items.size) = true then _ else _) _ _ s
 rw [if_neg hno,Md]
 first
  | exact wpAny_bind (m := Builtin.Tuple.tupleExact _) (wpAny_newObj_type (wpAny_pure ⟨_,rfl,wpAny_pure h⟩) htake)
  | exact wpAny_bind (m := Builtin.Tuple.tupleExact _) (wpAny_newObj_type (wpAny_bind (wpAny_pure (wpAny_pure ⟨_,rfl,wpAny_pure h⟩))) htake)
  | exact wpAny_bind (wpAny_bind (m := Builtin.Tuple.tupleExact _) (wpAny_newObj_type (wpAny_pure (wpAny_pure ⟨_,rfl,wpAny_pure h⟩)) htake))
  | exact wpAny_bind (wpAny_bind (m := Builtin.Tuple.tupleExact _) (wpAny_newObj_type (wpAny_pure ⟨_,rfl,wpAny_pure h⟩) htake))
end
end HT
namespace L2
open PySem PySem.Spec PyProof.Rows
abbrev TO := St -> Hp -> (Option Int -> Hp -> Prop) -> Prop
def PO (X : Cx) (e : Option Expr) (t : TO) : Prop :=
 ∀ (pins : List (Addr × Obj)) (s : Shared) (σ : St) (H : Hp) (Q : Option Int -> Hp -> Prop),Ae X pins σ H s -> t σ H Q ->
  wpAny (model X.prog X.w) X.A (evalPart e X.env) (fun u s' => ∃ o H',Ae X pins σ H' s' /\ IsPart u o /\ Q o H') X.xe s
def Me : TO := fun _ H Q => Q none H
def Mf (t : TE) : TO := fun σ H Q => t σ H fun x H1 => ∃ i,x = .int i /\ Q (some i) H1
theorem Mg {ns : List Int} : ∀ {us : List Value},Ar (ns.map V.int) us -> IntsAre us ns := by
 induction ns with
 | nil => intro us r; rw [List.map_nil] at r; cases r; exact .nil
 | cons n ns ih =>
  intro us r
  rw [List.map_cons] at r
  cases r with
  | cons r1 r2 =>
   obtain ⟨t,e⟩ := r1
   subst e
   exact .cons n t (ih r2)
section
variable {X : Cx} {e : Expr} {te : TE} {lo hi : Option Expr} {tl th : TO} {pos p2 : Pos}
theorem Fy : PO X none Me := by
 intro pins s σ H Q I h
 rw [evalPart_none]
 exact wpAny_pure ⟨none,H,I,.none,h⟩
theorem Cm (h : PE X e te) : PO X (some e) (Mf te) := by
 intro pins s σ H Q I hw
 rw [evalPart_some]
 refine An (h pins s σ H _ I hw) fun u s1 ⟨x,H1,I1,r1,q1⟩ => ?_
 obtain ⟨i,rfl,q⟩ := q1
 obtain ⟨t,rfl⟩ := r1
 exact ⟨some i,H1,I1,.int i t,q⟩
def Fz (X : Cx) (r : V -> Option Int -> Option Int -> Hp -> VK -> Prop) : Prop :=
 ∀ (pins : List (Addr × Obj)) (s : Shared) (σ : St) (H : Hp) (x : V) (v vl vu : Value) (lo hi : Option Int) (sl : Addr) (Q : VK),Ae X pins σ H s -> Ay x v -> s.heap.IsSliceOf sl vl vu .none -> IsPart vl lo -> IsPart vu hi -> r x lo hi H Q ->
  ∃ T id,typeLookup (.type T) "__getitem__" = pure (some (.builtin id)) /\ s.TypeIs v T /\ wpAny (model X.prog X.w) X.A (getItem v (.ref sl)) (EP X pins σ Q) X.xe s
def Mh (r : V -> Option Int -> Option Int -> Hp -> VK -> Prop) (te : TE) (tl th : TO) : TE := fun σ H Q => te σ H fun x H1 => tl σ H1 fun l H2 => th σ H2 fun u H3 => r x l u H3 Q
theorem De {r : V -> Option Int -> Option Int -> Hp -> VK -> Prop} (hr : Fz X r) (he : PE X e te) (hl : PO X lo tl) (hu : PO X hi th) : PE X (.Subscript e (.Slice lo hi none p2) pos) (Mh r te tl th) := by
 intro pins s σ H Q I h
 refine Subscript_ (An (he pins s σ H _ I h) fun v s1 ⟨x,H1,I1,r1,q1⟩ => ?_)
 refine wpAny_Slice (An (hl pins s1 σ H1 _ I1 q1) fun vl s2 ⟨l,H2,I2,pl,q2⟩ => An (hu pins s2 σ H2 _ I2 q2) fun vu s3 ⟨u,H3,I3,pu,q3⟩ => ?_)
 rw [evalPart_none]
 refine wpAny_pure ?_
 have I4 : Ae X pins σ H3 { s3 with heap := s3.heap.push { cls := .type "slice",data := .fields #[vl,vu,.none] } } := I3.kept (t' := s3.toks) fun b ob q => Heap.get?_push_of_some _ q
 obtain ⟨T,id,hT,ht,hg⟩ := hr pins { s3 with heap := s3.heap.push { cls := .type "slice",data := .fields #[vl,vu,.none] } } σ H3 x v vl vu l u s3.heap.objs.size Q I4 r1 (Heap.IsSliceOf.new ..) pl pu q3
 show wpAny (model X.prog X.w) X.A (subscriptTail e (.Slice lo hi none p2) v (.ref s3.heap.objs.size)) (EP X pins σ Q) X.xe { s3 with heap := s3.heap.push { cls := .type "slice",data := .fields #[vl,vu,.none] } }
 exact tail_any (ops := [.ref s3.heap.objs.size,v]) ht hT hg (by with_unfolding_all rfl)
def BE (xs : List V) (lo hi : Option Int) : List V := (xs.drop (HT.sIx xs.length 0 lo)).take (HT.sIx xs.length xs.length hi - HT.sIx xs.length 0 lo)
theorem Hf (xs : List V) (lo hi : Option Int) : (BE xs lo hi).length <= xs.length := by
 unfold BE
 rw [List.length_take,List.length_drop]
 omega
end
end L2
namespace L2
open PySem PySem.Spec PyProof.Rows
variable {i : Int} {j : Nat} {α : Type} {xs : List α} {v u : Value} {pins : List (Addr × Obj)} {σ : St} {H : Hp} {s : Shared} {p : Addr} {y : V}
def CU (n : Nat) (i : Int) : Option Nat := if 0 <= i then (if i < n then some i.toNat else none) else if -(n : Int) <= i then some (i + n).toNat else none
def Co {α : Type} (xs : List α) (i : Int) : Option α := (CU xs.length i).bind fun j => xs[j]?
theorem I9 {n : Nat} (h : CU n i = some j) : seqIndex? i n = some j /\ j < n /\ -(n : Int) <= i /\ i < n := by
 unfold CU at h
 by_cases h0 : 0 <= i
 ·rw [if_pos h0] at h
  by_cases h1 : i < n
  ·rw [if_pos h1] at h
   have e : i.toNat = j := Option.some.inj h
   exact ⟨by rw [seqIndex_of h0 h1,e],by omega,by omega,h1⟩
  ·rw [if_neg h1] at h; cases h
 ·rw [if_neg h0] at h
  by_cases h1 : -(n : Int) <= i
  ·rw [if_pos h1] at h
   have e : (i + n).toNat = j := Option.some.inj h
   exact ⟨by rw [seqIndex_neg (by omega) h1,e],by omega,h1,by omega⟩
  ·rw [if_neg h1] at h; cases h
theorem Ja {v : α} (h : Co xs i = some v) : ∃ j,seqIndex? i xs.length = some j /\ xs[j]? = some v /\ j < xs.length /\ -(xs.length : Int) <= i /\ i < xs.length := by
 unfold Co at h
 cases e : CU xs.length i with
 | none => rw [e] at h; cases h
 | some j =>
  rw [e] at h
  obtain ⟨h1,h2,h3,h4⟩ := I9 e
  exact ⟨j,h1,h,h2,h3,h4⟩
theorem Dg {v : α} (h : xs[j]? = some v) : Co xs (j : Int) = some v := by
 have hj : j < xs.length := (List.getElem?_eq_some_iff.mp h).1
 have e : CU xs.length (j : Int) = some j := by
  unfold CU
  rw [if_pos (by omega),if_pos (by omega)]; simp
 unfold Co; rw [e]; exact h
theorem Mi (xs : List α) (v : α) : Co (xs ++ [v]) (-1) = some v := by
 have hl : (xs ++ [v]).length = xs.length + 1 := by simp
 have e : CU (xs ++ [v]).length (-1) = some xs.length := by
  unfold CU
  rw [hl,if_neg (by decide),if_pos (by omega)]
  congr 1
  omega
 unfold Co
 rw [e]
 show (xs ++ [v])[xs.length]? = some v
 simp
def Mj (b : Expr) : Prop := ∀ o i,subscripted b false o i = operate [o,i] (getItem o i)
def ED (X : Cx) (r : R2) : Prop :=
 ∀ (value slice : Expr) (pins : List (Addr × Obj)) (s : Shared) (σ : St) (H : Hp) (x y : V) (v u : Value) (Q : VK),Ae X pins σ H s -> Ay x v -> Ay y u -> r x y H Q ->
  subscripted slice false v u = operate [v,u] (getItem v u) -> wpAny (model X.prog X.w) X.A (subscriptTail value slice v u) (EP X pins σ Q) X.xe s
def Ml (X : Cx) (id : String) (r : V -> List V -> Hp -> VK -> Prop) : Prop :=
 ∀ (pins : List (Addr × Obj)) (s : Shared) (σ : St) (H : Hp) (x : V) (xs : List V) (v : Value) (us : List Value) (Q : VK),Ae X pins σ H s -> Ay x v -> Ar xs us -> r x xs H Q ->
  wpAny (model X.prog X.w) X.A (call (.builtin id) (v :: us)) (EP X pins σ Q) X.xe s
section
variable {X : Cx} {a b : Expr} {ta tb : TE} {pos : Pos}
theorem AF {r : R2} (hr : ED X r) (ha : PE X a ta) (hb : PE X b tb) (hs : Mj b) : PE X (.Subscript a b pos) (Fq r ta tb) := by
 intro pins s σ H Q I h
 exact Subscript_ (G9 ha hb I h fun v u s2 x y H2 I2 rx ry q => hr a b pins s2 σ H2 x y v u Q I2 rx ry q (hs _ _))
def Jb (K : PySem.W.Frag) : R2 := fun x y H Q => ∃ p xs i v,x = .ref p /\ y = .int i /\ Am K H p xs /\ Co xs i = some v /\ Q v H
def Jc (K : PySem.W.Frag) : R2 := fun x y H Q => ∃ p xs i v,x = .ref p /\ y = .int i /\ Ad K H p xs /\ Co xs i = some v /\ Q v H
theorem Mm : ED X (Jb X.K) := by
 intro value slice pins s σ H x y v u Q I rx ry h hs
 obtain ⟨p,xs,i,z,rfl,rfl,hq,he,q⟩ := h
 cases rx
 obtain ⟨t,rfl⟩ := ry
 obtain ⟨its,r,pl,hz⟩ := I.list hq
 obtain ⟨j,h1,h2,h3,h4,h5⟩ := Ja he
 obtain ⟨w,ew,rw'⟩ := r.get h2
 have hl := r.length
 have hn := Fv
 have fin : EP X pins σ Q w s := ⟨z,H,I,rw',q⟩
 by_cases h0 : 0 <= i
 ·have hj : i.toNat = j := by
   rw [seqIndex_of h0 h5] at h1
   exact Option.some.inj h1
  exact item_listR pl.isList h0 (by omega) (by rw [hj]; simpa using ew) fin hs
 ·have hj : (i + (its.toArray.size : Int)).toNat = j := by
   rw [seqIndex_neg (by omega) h4] at h1
   rw [List.size_toArray,<- hl]
   exact Option.some.inj h1
  exact subscriptTail_builtinR (x := w) pl.isList.typeIs slot_list_getitem.lookup
   (wpAny_getItem_list_neg (Q := fun r s' => r = w /\ EP X pins σ Q r s') pl.isList (by omega) (by rw [List.size_toArray] <;> omega) (by omega) (by rw [hj]; simpa using ew) ⟨rfl,fin⟩) hs
theorem Mo : ED X (Jc X.K) := by
 intro value slice pins s σ H x y v u Q I rx ry h hs
 obtain ⟨p,xs,i,z,rfl,rfl,hq,he,q⟩ := h
 cases rx
 obtain ⟨t,rfl⟩ := ry
 obtain ⟨its,r,pl,hz⟩ := I.tuple hq
 obtain ⟨j,h1,h2,h3,h4,h5⟩ := Ja he
 obtain ⟨w,ew,rw'⟩ := r.get h2
 have hl := r.length
 have hn := Fv
 have fin : EP X pins σ Q w s := ⟨z,H,I,rw',q⟩
 exact subscriptTail_builtinR (x := w) pl.typeIs slot_tuple_getitem.lookup
  (getItem_tuple (j := j) (Q := fun r s' => r = w /\ EP X pins σ Q r s') pl (by omega) (by omega) (by rw [List.size_toArray,<- hl]; exact h1) (by simpa using ew) ⟨rfl,fin⟩) hs
theorem Mp (its : List Value) (n j : Nat) (u : Value) : Obj.mapSeq (·.setIfInBounds j u) { cls := .type "list",data := .seq its.toArray n } = { cls := .type "list",data := .seq (its.set j u).toArray n } := by
 simp [Obj.mapSeq]
theorem Ae.lst {xs : List V} (I : Ae X pins σ H s) (h : H p = some (.lst xs)) :
  ∃ (its : List Value) (n : Nat),Ar xs its /\ s.heap.get? p = some { cls := .type "list",data := .seq its.toArray n } /\ xs.length <= sizeLine := by
 obtain ⟨z,its,n,r,e⟩ := I.hok p _ h
 exact ⟨its,n,r,e,z⟩
theorem Ae.lstUpd {xs ys : List V} {its its' : List Value} {n n' : Nat} {f : Obj -> Obj} (I : Ae X pins σ H s) (h : H p = some (.lst xs))
  (ho : s.heap.get? p = some { cls := .type "list",data := .seq its.toArray n }) (hf : f { cls := .type "list",data := .seq its.toArray n } = { cls := .type "list",data := .seq its'.toArray n' }) (r : Ar ys its') (hz : ys.length <= sizeLine) (t : Nat) :
  Ae X pins σ (upd H p (.lst ys)) { s with heap := s.heap.update p f,toks := t } := by
 have e : (s.heap.update p f).get? p = some { cls := .type "list",data := .seq its'.toArray n' } := by
  rw [Heap.get?_update_self f ho (by rw [hf] <;> rfl),hf]
 refine I.write (x := p) (e := p) (by rw [h]; trivial) (.inl rfl) (fun b u hb q => (Heap.get?_update_other _ _ (Ne.symm hb)).trans q) ⟨_,e⟩ ?_
 exact ⟨hz,its',n',r,e⟩
def Mq : V -> V -> V -> Hp -> (Hp -> Prop) -> Prop := fun o i v H Q => ∃ p xs k j,o = .ref p /\ i = .int k /\ H p = some (.lst xs) /\ CU xs.length k = some j /\ Q (upd H p (.lst (xs.set j v)))
theorem Jd : Ix X Mq := by
 intro pins s σ H o i v ov iv u Q I ro ri rv h
 obtain ⟨p,xs,k,j,rfl,rfl,hp,hj,q⟩ := h
 cases ro
 obtain ⟨t,rfl⟩ := ri
 obtain ⟨its,n,r,ho,hz⟩ := I.lst hp
 obtain ⟨h1,h2,h3,h4⟩ := I9 hj
 have hl := r.length
 have hn := Fv
 have I' : Ae X pins σ (upd H p (.lst (xs.set j v))) { s with heap := s.heap.update p (Obj.mapSeq (·.setIfInBounds j u)) } :=
  I.lstUpd hp ho (Mp its n j u) (r.set rv j) (by rw [List.length_set]; exact hz) s.toks
 by_cases h0 : 0 <= k
 ·have hk : k.toNat = j := by
   rw [seqIndex_of h0 h4] at h1
   exact Option.some.inj h1
  exact PySem.W.ki_setAt ho h0 (by omega) (by rw [List.size_toArray,<- hl]; exact h4) (by rw [hk]; exact ⟨_,I',q⟩)
 ·have hk : (k + (its.toArray.size : Int)).toNat = j := by
   rw [seqIndex_neg (by omega) h3] at h1
   rw [List.size_toArray,<- hl]
   exact Option.some.inj h1
  exact PySem.W.ki_setBack ho (by omega) (by rw [List.size_toArray,<- hl]; exact h3) (by omega) (by rw [hk]; exact ⟨_,I',q⟩)
theorem Mr (lo hi : Option Int) (n : Nat) : (sliceBounds lo hi none n).1 = ((HT.sIx n 0 lo : Nat) : Int) /\ (sliceBounds lo hi none n).2.1 = ((HT.sIx n n hi : Nat) : Int) /\ (sliceBounds lo hi none n).2.2 = 1 := by
 refine ⟨?_,?_,rfl⟩
 ·cases lo with
  | none => simp [sliceBounds,HT.sIx]
  | some i =>
   simp only [sliceBounds,HT.sIx,Option.getD_none,show (1 : Int) > 0 by decide,if_true]
   by_cases h : i < 0
   ·simp only [h,if_true] <;> omega
   ·simp only [h,if_false] <;> omega
 ·cases hi with
  | none => simp [sliceBounds,HT.sIx]
  | some i =>
   simp only [sliceBounds,HT.sIx,Option.getD_none,show (1 : Int) > 0 by decide,if_true]
   by_cases h : i < 0
   ·simp only [h,if_true] <;> omega
   ·simp only [h,if_false] <;> omega
theorem Ms (its : List Value) (lo hi : Option Int) : slicePick its.toArray lo hi none = ((its.drop (HT.sIx its.length 0 lo)).take (HT.sIx its.length its.length hi - HT.sIx its.length 0 lo)).toArray := by
 obtain ⟨h1,h2,h3⟩ := Mr lo hi its.toArray.size
 unfold slicePick
 rw [h1,h2,h3]
 simp only [sliceRange_one,pick_run,List.size_toArray] <;> rfl
def Je (K : PySem.W.Frag) : V -> Option Int -> Option Int -> Hp -> VK -> Prop := fun x lo hi H Q => ∃ a xs,x = .ref a /\ Am K H a xs /\ ∀ p,H p = none -> Q (.ref p) (upd H p (.lst (BE xs lo hi)))
theorem Mt : Fz X (Je X.K) := by
 intro pins s σ H x v vl vu lo hi sl Q I rx hs pl pu h
 obtain ⟨a,xs,rfl,hx,q⟩ := h
 cases rx
 obtain ⟨its,r,ht,hz⟩ := I.list hx
 have hlen := r.length
 refine ⟨"list",_,slot_list_getitem.lookup,ht.isList.typeIs,?_⟩
 refine wpAny_getItem_list_slice ht.isList hs pl pu .none (by simp) ?_ (by rw [List.size_toArray] <;> omega)
 rw [Ms,<- hlen]
 refine ⟨.ref s.heap.objs.size,_,I.laid (t' := s.toks) (o := .lst (BE xs lo hi)) (fun b ob q => Heap.get?_push_of_some _ q) (Nat.le_refl _) ?_,rfl,q _ (I.hok.fresh (Nat.le_refl _))⟩
 exact ⟨Nat.le_trans (Hf xs lo hi) hz,_,0,(r.drop (HT.sIx xs.length 0 lo)).take (HT.sIx xs.length xs.length hi - HT.sIx xs.length 0 lo),Heap.get?_push_size _ rfl⟩
def Cw : V -> Bool
 | .non => true
 | .bl _ => true
 | .int _ => true
 | .str _ => true
 | _ => false
def CF : V -> V -> Bool
 | .non,.non => true
 | .bl a,.bl b => a == b
 | .bl a,.int b => (if a then 1 else 0) == b
 | .int a,.bl b => a == (if b then 1 else 0)
 | .int a,.int b => a == b
 | .str a,.str b => a == b
 | _,_ => false
theorem Mu {A : Around} {x : V} (ry : Ay y u) (rx : Ay x v) (fy : Cw y = true) (fx : Cw x = true) : SeqAt.EqAt A s u v (CF y x) := by
 cases y with
 | non =>
  cases ry
  cases x with
  | non => cases rx; exact SeqAt.EqAt.same _
  | bl b => cases rx; exact SeqAt.EqAt.none_bool b
  | int b => obtain ⟨t,rfl⟩ := rx; exact SeqAt.EqAt.none_int b t
  | str b => obtain ⟨t,rfl⟩ := rx; exact SeqAt.EqAt.none_str b t
  | _ => exact absurd (show false = true from fx) Bool.false_ne_true
 | bl a =>
  cases ry
  cases x with
  | non => cases rx; exact SeqAt.EqAt.bool_none a
  | bl b => cases rx; exact SeqAt.EqAt.bool_bool a b
  | int b => obtain ⟨t,rfl⟩ := rx; exact SeqAt.EqAt.bool_int a b t
  | str b => obtain ⟨t,rfl⟩ := rx; exact SeqAt.EqAt.bool_str a b t
  | _ => exact absurd (show false = true from fx) Bool.false_ne_true
 | int a =>
  obtain ⟨t',rfl⟩ := ry
  cases x with
  | non => cases rx; exact SeqAt.EqAt.int_none a t'
  | bl b => cases rx; exact SeqAt.EqAt.int_bool a t' b
  | int b => obtain ⟨t,rfl⟩ := rx; exact SeqAt.EqAt.int_int a t' b t
  | str b => obtain ⟨t,rfl⟩ := rx; exact SeqAt.EqAt.int_str a t' b t
  | _ => exact absurd (show false = true from fx) Bool.false_ne_true
 | str a =>
  obtain ⟨t',rfl⟩ := ry
  cases x with
  | non => cases rx; exact SeqAt.EqAt.str_none a t'
  | bl b => cases rx; exact SeqAt.EqAt.str_bool a t' b
  | int b => obtain ⟨t,rfl⟩ := rx; exact SeqAt.EqAt.str_int a t' b t
  | str b => obtain ⟨t,rfl⟩ := rx; exact SeqAt.EqAt.str_str a t' b t
  | _ => exact absurd (show false = true from fx) Bool.false_ne_true
 | _ => exact absurd (show false = true from fy) Bool.false_ne_true
def BW (x : V) (u : Value) : Bool := match u with
 | .none => CF .non x
 | .bool b => CF (.bl b) x
 | .int i _ => CF (.int i) x
 | .str z _ => CF (.str z) x
 | _ => false
theorem Jf {x : V} (r : Ay y u) (f : Cw y = true) : BW x u = CF y x := by
 cases y with
 | non => cases r; rfl
 | bl b => cases r; rfl
 | int i => obtain ⟨t,rfl⟩ := r; rfl
 | str z => obtain ⟨t,rfl⟩ := r; rfl
 | _ => exact absurd (show false = true from f) Bool.false_ne_true
theorem EE {x : V} : ∀ {xs : List V} {us : List Value},Ar xs us -> xs.all Cw = true -> us.any (BW x) = xs.any fun y => CF y x
 | _,_,.nil,_ => rfl
 | y :: xs,u :: us,.cons r t,f => by
  rw [List.all_cons,Bool.and_eq_true] at f
  rw [List.any_cons,List.any_cons,Jf r f.1,EE t f.2]
theorem EF {A : Around} {x : V} (rx : Ay x v) (fx : Cw x = true) : ∀ {xs : List V} {us : List Value},Ar xs us -> xs.all Cw = true -> ∀ u ∈ us,SeqAt.EqAt A s u v (BW x u)
 | _,_,.nil,_ => fun u hu => by cases hu
 | y :: xs,u :: us,.cons r t,f => fun u' hu => by
  rw [List.all_cons,Bool.and_eq_true] at f
  rcases List.mem_cons.mp hu with rfl | hu
  ·rw [Jf r f.1]; exact Mu r rx f.1 fx
  ·exact EF rx fx t f.2 u' hu
def By (x : V) (xs : List V) : Bool := xs.any fun y => CF y x
def FB (K : PySem.W.Frag) (neg : Bool) : R2 := fun x y H Q => ∃ p xs,y = .ref p /\ (Am K H p xs \/ Ad K H p xs) /\ Cw x = true /\ xs.all Cw = true /\ Q (.bl (if neg then !By x xs else By x xs)) H
theorem Mv : OpR X (compareOp .In) (FB X.K false) := by
 intro pins s σ H x y v u Q I rx ry h
 obtain ⟨p,xs,rfl,hq,fx,fs,q⟩ := h
 cases ry
 rcases hq with hq | hq
 ·obtain ⟨its,r,pl,hz⟩ := I.list hq
  refine SeqAt.in_listAt (BW x) pl.isList (fun w hw => EF rx fx r fs w (by simpa using hw)) ⟨.bl _,H,I,rfl,?_⟩
  rw [show its.toArray.any (BW x) = its.any (BW x) by simp,EE r fs]
  exact q
 ·obtain ⟨its,r,pl,hz⟩ := I.tuple hq
  refine SeqAt.in_tupleAt (BW x) pl (fun w hw => EF rx fx r fs w (by simpa using hw)) ⟨.bl _,H,I,rfl,?_⟩
  rw [show its.toArray.any (BW x) = its.any (BW x) by simp,EE r fs]
  exact q
theorem Mw : OpR X (compareOp .NotIn) (FB X.K true) := by
 intro pins s σ H x y v u Q I rx ry h
 obtain ⟨p,xs,rfl,hq,fx,fs,q⟩ := h
 cases ry
 rcases hq with hq | hq
 ·obtain ⟨its,r,pl,hz⟩ := I.list hq
  refine SeqAt.notIn_listAt (BW x) pl.isList (fun w hw => EF rx fx r fs w (by simpa using hw)) ⟨.bl _,H,I,rfl,?_⟩
  rw [show its.toArray.any (BW x) = its.any (BW x) by simp,EE r fs]
  exact q
 ·obtain ⟨its,r,pl,hz⟩ := I.tuple hq
  refine SeqAt.notIn_tupleAt (BW x) pl (fun w hw => EF rx fx r fs w (by simpa using hw)) ⟨.bl _,H,I,rfl,?_⟩
  rw [show its.toArray.any (BW x) = its.any (BW x) by simp,EE r fs]
  exact q
theorem Mx : BL X (.builtin "len") (fun xs H Q => ∃ p ys,xs = [.ref p] /\ (Am X.K H p ys \/ Ad X.K H p ys) /\ Q (.int ys.length) H) := by
 intro pins s σ H xs us Q I r h
 obtain ⟨p,ys,rfl,hq,q⟩ := h
 obtain ⟨u,rfl,rx⟩ := Fw r
 cases rx
 have hn := Fv
 rcases hq with hq | hq
 ·obtain ⟨its,r',pl,hz⟩ := I.list hq
  have hlen := r'.length
  exact Calls.call_len_list pl.isList (by simp only [List.size_toArray] <;> omega) ⟨.int ys.length,H,I.tok _,⟨s.toks + 1,by rw [List.size_toArray,hlen]⟩,q⟩
 ·obtain ⟨its,r',pl,hz⟩ := I.tuple hq
  have hlen := r'.length
  exact len_tuple pl (by simp only [List.size_toArray] <;> omega) ⟨.int ys.length,H,I.tok _,⟨s.toks + 1,by rw [List.size_toArray,hlen]⟩,q⟩
theorem My : BL X (.type "tuple") (fun xs H Q => ∃ p ys,xs = [.ref p] /\ ((Am X.K H p ys /\ ∀ l,H l = none -> Q (.ref l) (upd H l (.tup ys))) \/ (Ad X.K H p ys /\ Q (.ref p) H))) := by
 intro pins s σ H xs us Q I r h
 obtain ⟨p,ys,rfl,h⟩ := h
 obtain ⟨u,rfl,rx⟩ := Fw r
 cases rx
 rcases h with ⟨hq,q⟩ | ⟨hq,q⟩
 ·obtain ⟨its,r',pl,hz⟩ := I.list hq
  have hlen := r'.length
  refine call_tuple_list pl.isList (fun h' kp => ?_) (by simp only [List.size_toArray] <;> omega)
  have I1 : Ae X pins σ H { s with heap := h' } := I.kept (t' := s.toks) kp
  have I2 : Ae X pins σ (upd H h'.objs.size (.tup ys)) { s with heap := h'.push { cls := .type "tuple",data := .seq its.toArray } } :=
   I1.laid (t' := s.toks) (fun b o e => Heap.get?_push_of_some _ e) (Nat.le_refl _) (show ObjOk X.prog X.w _ _ _ (.tup ys) from ⟨hz,its,r',IsTup.new _ _⟩)
  exact ⟨.ref h'.objs.size,_,I2,rfl,q _ (I1.hok.fresh (Nat.le_refl _))⟩
 ·obtain ⟨its,r',pl,hz⟩ := I.tuple hq
  exact call_tuple_same pl ⟨.ref p,H,I,rfl,q⟩
def Jg (K : PySem.W.Frag) (T : String) (x : V) (H : Hp) : Prop := match x with
 | .str _ => T = "str"
 | .int _ => T = "int"
 | .ref p => (T = "list" /\ ∃ xs, Am K H p xs) \/ (T = "tuple" /\ ∃ o, K.lookup p = some o /\ o.cls = .type "tuple" /\ o.dict = none) \/
   (T = "dict" /\ ((∃ kvs,H p = some (.dK kvs)) \/ ∃ kvs,H p = some (.dT kvs))) \/ (T = "set" /\ ∃ S n,H p = some (.set S n))
 | _ => False
theorem Mz {T : String} {x : V} (I : Ae X pins σ H s) (r : Ay x v) (ty : Jg X.K T x H) :
  s.TypeIs v T /\ ∀ a,v = .ref a -> ∃ ob,s.heap.get? a = some ob /\ ob.dict = none := by
 cases x with
 | str z =>
  obtain ⟨t,rfl⟩ := r
  cases (show T = "str" from ty)
  exact ⟨typeIs_str s z t,fun _ e => nomatch e⟩
 | int i =>
  obtain ⟨t,rfl⟩ := r
  cases (show T = "int" from ty)
  exact ⟨typeIs_int s i t,fun _ e => nomatch e⟩
 | ref p =>
  cases r
  rcases ty with ⟨rfl,xs,hq⟩ | ⟨rfl,o,hk,hc,hd⟩ | ⟨rfl,hk⟩ | ⟨rfl,S,n,hk⟩
  ·obtain ⟨its,_,pl,_⟩ := I.list hq
   refine ⟨pl.isList.typeIs,fun a e => ?_⟩
   cases e
   obtain ⟨o,n,e,c,hd,_⟩ := pl
   exact ⟨o,e,hd⟩
  ·refine ⟨⟨o,I.kIn p o hk,hc⟩,fun a e => ?_⟩
   cases e
   exact ⟨o,I.kIn _ o hk,hd⟩
  ·have z : ∃ o,s.heap.get? p = some o /\ o.ExactDict := by
    rcases hk with ⟨kvs,hk⟩ | ⟨kvs,hk⟩
    ·obtain ⟨_,_,_,_,o,_,_,e,ex,_⟩ := I.hok p _ hk
     exact ⟨o,e,ex⟩
    ·obtain ⟨_,_,_,_,o,_,_,e,ex,_⟩ := I.hok p _ hk
     exact ⟨o,e,ex⟩
   obtain ⟨o,e,ex⟩ := z
   refine ⟨⟨o,e,ex.1⟩,fun a e2 => ?_⟩
   cases e2
   exact ⟨o,e,ex.2.1⟩
  ·obtain ⟨o,_,_,_,e,ex,_⟩ := I.hok p _ hk
   refine ⟨⟨o,e,ex.1⟩,fun a e2 => ?_⟩
   cases e2
   exact ⟨o,e,ex.2.1⟩
 | _ => exact False.elim ty
def MA (K : PySem.W.Frag) (T : String) (r : V -> List V -> Hp -> VK -> Prop) (to : TE) (t : TA) : TE := fun σ H Q => to σ H fun x H1 => Jg K T x H1 /\ t σ H1 fun xs H2 => r x xs H2 Q
variable {o e : Expr} {es : List Expr} {to : TE} {t : TA} {name : Str} {apos cpos : Pos} {T id : String} {r : V -> List V -> Hp -> VK -> Prop}
theorem Dh (pa : PlainAttrs T) (slot : Slot T name id) (hty : typeOf (.builtin id) = pure (.type "method_descriptor")) (hm : Ml X id r) (ho : PE X o to) (ha : PA X (e :: es) t)
  (hbase : attributeBase o name X.env (eval o X.env) = eval o X.env := by rfl)
  (hfew : ((backTo cpos (starEach (e :: es) X.env)).all (fun x => !x.1) && (backToKw cpos (keywordEach [] X.env)).all (fun x => x.1.isSome)
   && decide ((e :: es).length + ([] : List Keyword).length + (if ([] : List Keyword).isEmpty then 0 else 1) < 30)) = true := by rfl)
  (hline : (apos.endLine == cpos.line) = true := by rfl) (hs : starEach (e :: es) X.env = (false,eval e X.env) :: starEach es X.env := by rfl) (hplain : (backTo cpos (starEach es X.env)).any (·.1) = false := by rfl) :
  PE X (.Call (.Attribute o name apos) (e :: es) [] cpos) (MA X.K T r to t) := by
 intro pins s σ H Q I h
 refine wpAny_Call_method_late hbase hfew hline rfl (An (ho pins s σ H _ I h) fun v s1 ⟨x,H1,I1,r1,ty,q1⟩ => ?_)
 obtain ⟨h1,h2⟩ := Mz I1 r1 ty
 refine ⟨T,id,pa,slot,hty,h1,h2,?_⟩
 have hA := ha cpos pins s1 σ H1 _ I1 q1
 rw [hs] at hA ⊢
 refine Calls.callWith_builtin (by show (false || (backTo cpos (starEach es X.env)).any (·.1)) = false; rw [hplain] <;> rfl) (Calls.evalArgs_plain ?_)
 exact An hA fun us s2 ⟨vs,H2,I2,r2,q2⟩ => hm pins s2 σ H2 x vs v us Q I2 r1 r2 q2
end
end L2
namespace L2
open PySem PySem.Spec PyProof.Rows
def MB (X : Cx) (id : String) (r : V -> List V -> Hp -> VK -> Prop) : Prop :=
 ∀ (pins : List (Addr × Obj)) (s : Shared) (σ : St) (H : Hp) (x : V) (xs : List V) (v : Value) (us : List Value) (Q : VK),Ae X pins σ H s -> Ay x v -> Ar xs us -> r x xs H Q ->
  wpAny (model X.prog X.w) X.A (call (.builtin id) (v :: us)) (EP X pins σ Q) X.xe s
theorem Ar.one : ∀ {x : V} {us : List Value},Ar [x] us -> ∃ u,us = [u] /\ Ay x u
 | _,_,.cons r .nil => ⟨_,rfl,r⟩
theorem Ar.two : ∀ {x y : V} {us : List Value},Ar [x,y] us -> ∃ u v,us = [u,v] /\ Ay x u /\ Ay y v
 | _,_,_,.cons r (.cons q .nil) => ⟨_,_,rfl,r,q⟩
theorem Ar.rep {xs : List V} {us : List Value} (h : Ar xs us) : ∀ k : Nat,Ar (List.replicate k xs).flatten (List.replicate k us).flatten
 | 0 => .nil
 | k + 1 => by
  rw [List.replicate_succ,List.replicate_succ,List.flatten_cons,List.flatten_cons]
  exact Ar.append h (Ar.rep h k)
theorem Jh (its : List Value) : ∀ (k : Nat) (acc : List Value),
  List.foldl (fun x1 x2 => x1 ++ x2) acc.toArray (List.replicate k its.toArray) = (acc ++ (List.replicate k its).flatten).toArray
 | 0,acc => by simp
 | k + 1,acc => by
  have e : acc.toArray ++ its.toArray = (acc ++ its).toArray := by simp
  have e2 : (acc ++ its) ++ (List.replicate k its).flatten = acc ++ (List.replicate (k + 1) its).flatten := by
   rw [List.replicate_succ,List.flatten_cons,List.append_assoc]
  rw [<- e2,<- Jh its k (acc ++ its),<- e,List.replicate_succ,List.foldl_cons]
section
variable {X : Cx} {pins : List (Addr × Obj)} {σ : St} {H : Hp} {s : Shared} {l b : Addr} {xs ys zs : List V}
theorem Ae.lset {its its' : List Value} {n : Nat} {f : Array Value -> Array Value} {t' : Nat} (I : Ae X pins σ H s) (hH : H l = some (.lst xs))
  (e : s.heap.get? l = some { cls := .type "list",data := .seq its.toArray n }) (hf : f its.toArray = its'.toArray) (hv : Ar ys its') (hz : ys.length <= sizeLine) :
  Ae X pins σ (upd H l (.lst ys)) { s with heap := s.heap.update l (Obj.mapSeq f),toks := t' } := by
 have q := PySem.IsL.update e f
 rw [hf] at q
 refine I.write (x := l) (e := l) (by rw [hH]; exact trivial) (.inl rfl) (fun b' u hb hu => (Heap.get?_update_other s.heap (Obj.mapSeq f) (Ne.symm hb)).trans hu) ⟨_,q⟩ ?_
 exact ⟨hz,its',_,hv,q⟩
theorem Ae.lnew {its : List Value} {t' : Nat} (I : Ae X pins σ H s) (hv : Ar ys its) (hz : ys.length <= sizeLine) :
  Ae X pins σ (upd H s.heap.objs.size (.lst ys)) { s with heap := s.heap.push { cls := .type "list",data := .seq its.toArray },toks := t' } :=
 I.laid (fun _ _ q => Heap.get?_push_of_some _ q) (Nat.le_refl _) ⟨hz,its,0,hv,Heap.get?_push_size _ rfl⟩
theorem Ae.fresh (I : Ae X pins σ H s) : H s.heap.objs.size = none := I.hok.fresh (Nat.le_refl _)
theorem Ae.lstM (I : Ae X pins σ H s) (hH : H l = some (.lst xs)) : xs.length <= sizeLine /\ ∃ (its : List Value) (n : Nat),Ar xs its /\ xs.length = its.length /\ s.heap.get? l = some { cls := .type "list",data := .seq its.toArray n } := by
 obtain ⟨z,its,n,r,e⟩ := I.hok l _ hH
 exact ⟨z,its,n,r,r.length,e⟩
theorem notLongL {n : Nat} (h : n <= sizeLine) : Builtin.List.listTooLong n = false := by
 unfold Builtin.List.listTooLong
 exact decide_eq_false (by omega)
end
section
variable {X : Cx}
def MC : V -> List V -> Hp -> VK -> Prop := fun x vs H Q => ∃ l xs y,x = .ref l /\ vs = [y] /\ H l = some (.lst xs) /\ xs.length < sizeLine /\ Q .non (upd H l (.lst (xs ++ [y])))
theorem Di : MB X "list.append" MC := by
 intro pins s σ H x vs v us Q I rx rv h
 obtain ⟨l,xs,y,rfl,rfl,hH,hz,q⟩ := h
 cases rx
 obtain ⟨u,rfl,ru⟩ := rv.one
 obtain ⟨z,its,n,r,hl,e⟩ := I.lstM hH
 refine call_meets F.slot_list_append ⟨_,e,rfl⟩ F.entry_list_append (F.args_list_append_2 _ _) (PySem.list_append l its.toArray n u (by rw [List.size_toArray]; omega)) ⟨e,?_⟩
 refine ⟨.non,_,I.lset (its' := its ++ [u]) hH e (by simp) (r.append (.cons ru .nil)) ?_,rfl,q⟩
 rw [List.length_append,List.length_singleton]
 omega
def MD : R2 := fun x y H Q => ∃ l b xs zs,x = .ref l /\ y = .ref b /\ H l = some (.lst xs) /\ H b = some (.lst zs) /\ xs.length + zs.length <= sizeLine /\ ∀ p,H p = none -> Q (.ref p) (upd H p (.lst (xs ++ zs)))
theorem ME : OpR X (binaryOp .Add) MD := by
 intro pins s σ H x y v u Q I rx ry h
 obtain ⟨l,b,xs,zs,rfl,rfl,hH,hB,hz,q⟩ := h
 cases rx
 cases ry
 obtain ⟨z,its,n,r,hl,e⟩ := I.lstM hH
 obtain ⟨z2,its2,n2,r2,hl2,e2⟩ := I.lstM hB
 refine PySem.P.add_list e e2 ?_ (by rw [List.size_toArray,List.size_toArray]; omega)
 have ea : its.toArray ++ its2.toArray = (its ++ its2).toArray := by simp
 rw [ea]
 exact ⟨.ref _,_,I.lnew (t' := s.toks) (r.append r2) (by rw [List.length_append]; omega),rfl,q _ I.fresh⟩
theorem Ji {α : Type} (xs : List α) (k : Nat) : (List.replicate k xs).flatten.length = k * xs.length := by
 induction k with
 | zero => simp
 | succ k ih => rw [List.replicate_succ,List.flatten_cons,List.length_append,ih,Nat.succ_mul,Nat.add_comm]
end
section
variable {prog : Program} {w : World} {A : Around} {E : Value -> Shared -> Prop} {s : Shared}
end
section
variable {X : Cx}
end
end L2
namespace Att
open PySem PySem.W PySem.Calls PyProof.Rows
theorem MG {P : Params} {h : Heap} : ∀ (ns : List Int) (vs : List Value),WellAll P h vs (ns.map WData.int) -> IntsAre vs ns := by
 intro ns
 induction ns with
 | nil =>
  intro vs w
  rw [List.map_nil] at w
  cases w
  exact .nil
 | cons n ns ih =>
  intro vs w
  rw [List.map_cons] at w
  cases w with
  | cons a b =>
   cases a
   exact .cons _ _ (ih _ b)
theorem MH {l : OpenLaw} {n : Nat} (hn : l.most = some n) {P : Params} {h : Heap} {args : List WData} {vals : List Value}
    (hpre : l.row.toRowW.claim.pre args = true) (hwl : WellAll P h vals args) :
    ∃ a vs ns,vals = [Value.ref a] /\ args = [WData.list (ns.map WData.int)] /\ h.get? a = some { cls := .type "list",data := .seq vs.toArray } /\ IntsAre vs ns /\ ns.length <= n := by
  have hsh : WShape.hasAll [] args [.list .int] = true := (pre_splitW hpre).1
  have hc : l.pre.holds [] { args := args } = true := (pre_splitW hpre).2
  obtain ⟨d,r,rfl,h1,h2⟩ := hasAllW_cons hsh
  obtain rfl := hasAllW_nil h2
  obtain ⟨xs,rfl,h3⟩ := hasW_list h1
  obtain ⟨ns,rfl⟩ := items_int h3
  have hlen : ns.length <= n := by
    unfold OpenLaw.pre at hc
    have h4 : (WTm.not (.lt (.lit (.int (n : Int))) (.len (.arg 0)))).holds [] { args := [.list (ns.map .int)] } = true := by
      have h4 := (holds_andW hc).1
      rw [hn] at h4
      exact h4
    have h5 := condW_of h4 (w_not (w_lt w_lit (w_len_list (w_arg rfl))))
    rw [List.length_map] at h5
    refine Nat.le_of_not_lt fun q => ?_
    have q' : (n : Int) < ((ns.length : Nat) : Int) := by omega
    first
      | (rw [decide_eq_true q'] at h5; exact absurd h5 (by decide))
      | (simp at h5; omega)
  cases hwl with
  | cons w1 w2 =>
    cases w2
    cases w1 with
    | list ho hall => exact ⟨_,_,ns,rfl,rfl,ho,MG ns _ hall,hlen⟩
theorem MI (l : OpenLaw) (args : List WData) : l.row.toRowW.claim.post args (.bool true) args = true :=
 postW_of (r := l.row.toRowW) (X := (true == true))
  (show WShape.has [] (.bool true) .bool = true by first | rfl | decide | simp [WShape.has,WShape.arms,WShape.armsAll])
  (show (WTm.eq .res (.lit (.bool true))).value [] { args := args,res := some (.bool true),after := args } = some (.bool (true == true)) from w_eq_bool (w_res rfl) w_lit) rfl
theorem attach_call {l : OpenLaw} {n : Nat} {q : Program} {loose : List Str} {XP : (Str -> Option Value) -> Heap -> Prop} {YP : World -> Heap -> Prop} {d : DefRec}
  (hn : l.most = some n) (hdf : d.params.defaults = [])
  (call : ∀ (w : World) (s₀ s₁ : Shared) (mg mb : Str -> Option Value) (fa : Addr) (o : Obj) (pm cd doc : Value) (a : Addr) (vs : List Value) (ns : List Int),
   Ground q loose [] XP w s₀ mg mb s₁.heap -> YP w s₁.heap ->
   s₁.heap.get? fa = some o -> o.data = .func (docDef d.name d.params d.body d.scope pm cd doc) -> s₁.heap.CodeRec cd d.name -> mg d.name = some (.ref fa) ->
   s₁.heap.get? a = some { cls := .type "list",data := .seq vs.toArray } -> IntsAre vs ns -> ns.length <= n -> s₁.gens = #[] ->
   codeAny (model l.prog w) callerA (.call (.ref fa) ⟨[.ref a],[]⟩) (fun r s' => r = .ok (.ret (.bool true)) /\ OldK s₁.heap s'.heap /\ s'.os = s₁.os /\ AllBare s'.gens) s₁) :
  WalkO q loose XP YP l.row.toRowW d [] (fun f vs => PySem.call f vs) := by
 intro w s₀ s₁ mg mb G Y fa o pm cd doc dV kV ho hd hcd hD hmg hg args vals as hpre hlay hrd hwl hlo
 obtain rfl : dV = .none := Dflts.none hD hdf
 obtain rfl : kV = .none := Dflts.noKw hD
 obtain ⟨a,vs,ns,rfl,rfl,hobj,hints,hlen⟩ := MH hn hpre hwl
 refine enter_call (codeAny_mono (call w s₀ s₁ mg mb fa o pm cd doc a vs ns G Y ho (fd_plain hd) hcd hmg hobj hints hlen hg) fun r s' hq => ?_)
 obtain ⟨rfl,h2,h3,h4⟩ := hq
 exact ⟨.inl ⟨.bool true,.bool true,[],rfl,fun _ => rfl,.bool true,MI l _,fun _ => ⟨List.Pairwise.nil,fun _ hm => (nomatch hm)⟩⟩,h2,h3,h4⟩
section
variable {prog : Program} {w : World} {A : Around} {E : Value -> Shared -> Prop} {s : Shared} {K : Frag}
end
end Att
namespace L2
open PySem PySem.Spec PyProof.Rows
theorem Hg : ∀ {vs : List Value} {ns : List Int},IntsAre vs ns -> Ar (ns.map V.int) vs
 | _,_,.nil => .nil
 | _,_,.cons n t h => .cons ⟨t,rfl⟩ (Hg h)
def FC (H : Hp) : Prop := ∀ b,H b = none \/ ∃ o xs,H b = some (.frz o (.lst xs))
theorem MJ {P : Program} {w : World} {K : PySem.W.Frag} {mg mb : Str -> Option Value} {CX : Ce} {k : Nat} {fa a : Addr} {fd : FuncData} {x : Str} {sp : Sp} {s₁ : Shared} {vs : List Value} {ns : List Int}
  (KX : K.In s₁.heap) (hns : s₁.heap.Ns mainGlobals mg) (hb : s₁.heap.Ns builtinsNs mb) (hbb : ∀ x : Str,x ≠ "__name__" -> mb x = bootBuiltins x) (hlim : s₁.heap.NoLimit) (hg : s₁.gens = #[])
  (ha : s₁.heap.get? a = some { cls := .type "list",data := .seq vs.toArray }) (hi : IntsAre vs ns) (hl : ns.length <= sizeLine) (hr : Bf k callerA)
  (F : ∀ base : Heap,K.In base -> base.Ns mainGlobals mg -> Cv P w K mg base CX k fa fd [x] sp) (hbind : ∀ (s : Shared) (u : Value),BindsTo s fd ⟨[u],[]⟩ [(x,u)])
  (hsp : ∀ H : Hp,FC H -> Am K H a (ns.map V.int) -> sp [.ref a] H (fun v _ => v = .bl true) fun _ _ _ => False)
  (hCX : ∀ H e s',CX [] H s₁ (fun _ _ _ => False) e s' -> False) :
  codeAny (model P w) callerA (.call (.ref fa) ⟨[.ref a],[]⟩) (fun r s' => r = .ok (.ret (.bool true)) /\ OldK s₁.heap s'.heap /\ s'.os = s₁.os /\ AllBare s'.gens) s₁ := by
 have rv := Hg hi
 have lenV := hi.length
 -- from an abstract heap in which nothing but the script may be tracked
 have core : ∀ H : Hp,FC H -> Am K H a (ns.map V.int) -> HOk P w H s₁.heap -> (∀ b,H b ≠ none -> b = a) -> (H a ≠ none -> K.lookup a = none) ->
   codeAny (model P w) callerA (.call (.ref fa) ⟨[.ref a],[]⟩) (fun r s' => r = .ok (.ret (.bool true)) /\ OldK s₁.heap s'.heap /\ s'.os = s₁.os /\ AllBare s'.gens) s₁ := by
  intro H hO hS hok hA hK
  have base_of : ∀ {b : Addr} {o : Obj},s₁.heap.get? b = some o -> H b = none -> (CQ s₁.heap H).get? b = some o := fun e n => Ls e n
  have noA : ∀ {b : Addr} {o : Obj} {es : Array DictEntry} {ep : Nat},s₁.heap.get? b = some o -> o.data = .dict es ep -> H b = none := fun {b o es ep} e d => by
   cases q : H b with
   | none => rfl
   | some u =>
    have e' : b = a := hA b (by rw [q]; simp)
    subst e'
    rw [ha] at e; cases e
    have d' : Data.seq vs.toArray _ = Data.dict es ep := d
    cases d'
  have nsK : ∀ {b : Addr} {m : Str -> Option Value},s₁.heap.Ns b m -> (CQ s₁.heap H).Ns b m := fun {b m} ⟨o,es,ep,e,d,r⟩ => ⟨o,es,ep,base_of e (noA e d),d,r⟩
  have hKb : K.In (CQ s₁.heap H) := fun b o e => base_of (KX b o e) (by
   cases q : H b with
   | none => rfl
   | some u =>
    have e' : b = a := hA b (by rw [q]; simp)
    subst e'
    rw [hK (by rw [q]; simp)] at e; cases e)
  have hM : Mod K mg (CQ s₁.heap H) := ⟨hKb,nsK hns,⟨mb,nsK hb,hbb⟩,let ⟨mc,h1,h2⟩ := hlim; ⟨mc,nsK h1,h2⟩⟩
  have e0 : DX P w K mg (CQ s₁.heap H) callerA [] s₁ H := ⟨rfl,hM,fun b o e => Lu e,Nat.le_of_eq (Lr _ _),trivial,fun b hb => absurd (show b ∈ ([] : List Addr) from hb) (by simp),hok,.of_eq hg⟩
  refine codeAny_mono ((F _ hKb (nsK hns)).run callerA [] s₁ H ⟨[.ref a],[]⟩ [.ref a] [.ref a] _ _ hr e0 (hbind s₁ (.ref a)) (.cons rfl .nil) (hsp H hO hS)) fun r s' h => ?_
  cases r with
  | error e => exact (hCX H e s' h).elim
  | ok fl =>
   cases fl with
   | next => exact False.elim h
   | brk => exact False.elim h
   | cont => exact False.elim h
   | ret u =>
    obtain ⟨v,H',os,bare,un,hok',r',q⟩ := h
    have q' : v = .bl true := q
    subst q'
    obtain rfl : u = Value.bool true := r'
    refine ⟨rfl,OldK.of_keep fun b o e => ?_,os,bare⟩
    cases q : H b with
    | none => exact un.keep b o e q (by intro z; exact absurd (show b ∈ ([] : List Addr) from z) (by simp)) (by simp)
    | some u =>
     rcases hO b with z | ⟨ob,xs,z⟩
     ·rw [q] at z; cases z
     ·have z2 := un.frzs b ob _ z
      obtain ⟨e1,_⟩ := hok b _ z
      obtain ⟨e2,_⟩ := hok' b _ z2
      rw [e] at e1; cases e1
      exact e2
 cases hk : K.lookup a with
 | some o =>
  -- the script is one of the module's own objects
  have e := KX a o hk
  rw [ha] at e
  cases e
  refine core (fun _ => none) (fun _ => .inl rfl) (.inr ⟨_,vs.toArray,_,hk,rfl,rfl,rfl,by rw [List.size_toArray,lenV]; exact hl,by simpa using rv⟩) (fun b u z => by have z' : (none : Option HO) = some u := z; cases z') (fun b z => absurd rfl z) fun z => absurd rfl z
 | none =>
  refine core (fun b => if b = a then some (.frz { cls := .type "list",data := .seq vs.toArray } (.lst (ns.map V.int))) else none) (fun b => ?_) (.inl (.inr ⟨{ cls := .type "list",data := .seq vs.toArray },if_pos rfl⟩)) (fun b u z => ?_) (fun b z => ?_) fun _ => hk
  ·by_cases hb : b = a
   ·exact .inr ⟨_,_,if_pos hb⟩
   ·exact .inl (if_neg hb)
  ·by_cases hb : b = a
   ·have z' := (if_pos hb).symm.trans z
    cases z'
    subst hb
    exact ⟨ha,by rw [List.length_map]; exact hl,vs,_,rv,ha⟩
   ·have z' := (if_neg hb).symm.trans z
    cases z'
  ·by_cases hb : b = a
   ·exact hb
   ·exact absurd (if_neg hb) z
end L2
namespace L2
open PySem PySem.Spec PyProof.Rows
theorem MK {l : PySem.W.OpenLaw} {n k : Nat} {q : Program} {loose : List Str} {XP : (Str -> Option Value) -> Heap -> Prop} {YP : World -> Heap -> Prop} {d : DefRec} {K : Params -> PySem.W.Frag} {CX : World -> Ce} {sp : World -> Sp} {x : Str}
  (hn : l.most = some n) (hn2 : n <= sizeLine) (hdf : d.params.defaults = []) (hr : Bf k callerA)
  (hY : ∀ (w : World) (h : Heap),YP w h -> (K w.params).In h)
  (F : ∀ (w : World) (mg : Str -> Option Value) (fa : Addr) (h : Heap), (K w.params).In h -> h.Ns mainGlobals mg -> mg d.name = some (.ref fa) ->
   ∃ fd : FuncData,(∀ (s : Shared) (u : Value),BindsTo s fd ⟨[u],[]⟩ [(x,u)]) /\
    ∀ base : Heap,(K w.params).In base -> base.Ns mainGlobals mg -> Cv l.prog w (K w.params) mg base (CX w) k fa fd [x] (sp w))
  (hsp : ∀ (w : World) (H : Hp) (a : Addr) (ns : List Int),ns.length <= n -> FC H -> Am (K w.params) H a (ns.map V.int) -> sp w [.ref a] H (fun v _ => v = .bl true) fun _ _ _ => False)
  (hCX : ∀ (w : World) (H : Hp) (s : Shared) (e : Value) (s' : Shared),CX w [] H s (fun _ _ _ => False) e s' -> False) :
  PySem.W.WalkO q loose XP YP l.row.toRowW d [] (fun f vs => PySem.call f vs) := by
 refine Att.attach_call hn hdf fun w s₀ s₁ mg mb fa o pm cd doc a vs ns G Y ho hd hcd hmg hobj hints hlen hg => ?_
 have KX := hY w _ Y
 obtain ⟨fd,hb,hF⟩ := F w mg fa _ KX G.T.g hmg
 exact MJ KX G.T.g G.T.b G.T.builtins G.T.nolimit hg hobj hints (Nat.le_trans hlen hn2) hr hF hb (fun H hO hS => hsp w H a ns hlen hO hS) fun H e s' => hCX w H s₁ e s'
theorem walk_ofK {l : PySem.W.OpenLaw} {n k : Nat} {q : Program} {loose : List Str} {XP : (Str -> Option Value) -> Heap -> Prop} {YP : World -> Heap -> Prop} {d : DefRec} {K : Params -> PySem.W.Frag} {CX : Ce} {sp : PySem.W.Frag -> Sp} {x : Str}
  (hn : l.most = some n) (hn2 : n <= sizeLine) (hdf : d.params.defaults = []) (hr : Bf k callerA)
  (hY : ∀ (w : World) (h : Heap),YP w h -> (K w.params).In h)
  (F : ∀ (w : World) (mg : Str -> Option Value) (fa : Addr) (h : Heap), (K w.params).In h -> h.Ns mainGlobals mg -> mg d.name = some (.ref fa) ->
   ∃ fd : FuncData,(∀ (s : Shared) (u : Value),BindsTo s fd ⟨[u],[]⟩ [(x,u)]) /\
    ∀ base : Heap,(K w.params).In base -> base.Ns mainGlobals mg -> Cv l.prog w (K w.params) mg base CX k fa fd [x] (sp (K w.params)))
  (hsp : ∀ (K : PySem.W.Frag) (H : Hp) (a : Addr) (ns : List Int),ns.length <= n -> FC H -> Am K H a (ns.map V.int) -> sp K [.ref a] H (fun v _ => v = .bl true) fun _ _ _ => False)
  (hCX : ∀ (H : Hp) (s : Shared) (e : Value) (s' : Shared),CX [] H s (fun _ _ _ => False) e s' -> False) :
  PySem.W.WalkO q loose XP YP l.row.toRowW d [] (fun f vs => PySem.call f vs) :=
 MK (K := K) (CX := fun _ => CX) (sp := fun w => sp (K w.params)) hn hn2 hdf hr hY F (fun w H a ns h1 h2 h3 => hsp (K w.params) H a ns h1 h2 h3) fun _ H s e s' => hCX H s e s'
end L2
namespace L2
open PySem PySem.Spec PyProof.Rows
variable {qual : Str} {fd : FuncData} {ps : List Str} {H H' : Hp}
def B5 (s : Stmt) : Arguments := match s with
 | .FunctionDef _ a _ _ _ _ _ _ _ _ => a
 | _ => { posonlyargs := [],args := [],vararg := none,kwonlyargs := [],kw_defaults := [],kwarg := none,defaults := [] }
def BN (s : Stmt) : List Stmt := match s with
 | .FunctionDef _ _ b _ _ _ _ _ _ _ => b
 | _ => []
def Ap (s : Stmt) : Scope := match s with
 | .FunctionDef _ _ _ _ _ _ sc _ _ _ => sc
 | _ => { kind := .function,names := [],isGenerator := false,isCoroutine := false }
abbrev CX0 : Ce := fun _ _ _ _ _ _ => False
abbrev E0 : XK := fun _ _ _ => False
theorem ML {X : Cx} : He CX0 X E0 := fun _ _ _ _ _ _ _ h => h.elim
structure Dz (K : PySem.W.Frag) (x qual : Str) (st : Stmt) (f : Addr) (fd : FuncData) : Prop where
 ex : ∃ (oc : Value) (od : Option Addr) (kV doc pm : Value) (an : Option Addr) (cdv ct : Value) (osl : Array (Option Value)),
  fd = PySem.W.fnOf x qual (B5 st) (BN st) (Ap st) .none kV doc pm an cdv ct /\ K.lookup f = some ⟨oc,od,.func fd,osl⟩ /\ PySem.W.codeIn K cdv qual = true
 kp : PySem.W.keepIn K (.ref f) = true
section
variable {P : Program} {w : World} {K : PySem.W.Frag} {mg : Str -> Option Value} {base : Heap}
theorem Dz.ok {x : Str} {st : Stmt} {f : Addr} {N : List Str} {k : Nat} {sp : Sp} (F : Dz K x qual st f fd) (S : Aw N ps (Ap st)) (len : ∀ vs H Q E,sp vs H Q E -> vs.length = ps.length)
  (hbody : ∀ (cdv : Value) (A : Around) (outer : List Env) (s : Shared) (H : Hp) (vs : List V) (Q : VK) (E : XK), Bf k (A.deeper (envOfC qual (Ap st) s.heap.objs.size f cdv)) -> sp vs H Q E ->
   ∃ t,PSs (Dy CX0 P w K mg base N qual (Ap st) f cdv A outer s H E).nox (BN st) t /\ t { nx := fun _ H' => Q .non H',rt := Q } (start N vs) H) : Cv P w K mg base CX0 (k + 1) f fd ps sp := by
 obtain ⟨oc,od,kV,doc,pm,an,cdv,ct,osl,rfl,lk,hcd⟩ := F.ex
 refine L9 lk hcd S len fun A outer s H vs Q E hr hsp => ?_
 obtain ⟨t,h,q⟩ := hbody cdv A outer s H vs Q E hr hsp
 exact ⟨t,h.nox,q⟩
theorem Dz.binds {x : Str} {st : Stmt} {f : Addr} (F : Dz K x qual st f fd)
  (h : ∀ (kV doc pm : Value) (an : Option Addr) (cdv ct : Value) (us : List Value),us.length = ps.length -> bindArgs (PySem.W.fnOf x qual (B5 st) (BN st) (Ap st) .none kV doc pm an cdv ct) ⟨us,[]⟩ = pure (ps.zip us)) : Binds K fd ps [] := by
 obtain ⟨oc,od,kV,doc,pm,an,cdv,ct,osl,rfl,lk,hcd⟩ := F.ex
 exact .all (h kV doc pm an cdv ct)
theorem Hh {x : Str} {st : Stmt} {f : Addr} {oc : Value} {od an : Option Addr} {osl : Array (Option Value)} {kV doc pm cdv ct : Value} (l : K.lookup f = some ⟨oc,od,.func (PySem.W.fnOf x qual (B5 st) (BN st) (Ap st) .none kV doc pm an cdv ct),osl⟩)
  (c : PySem.W.codeIn K cdv qual = true) (k : PySem.W.keepIn K (.ref f) = true) : Dz K x qual st f (PySem.W.fnOf x qual (B5 st) (BN st) (Ap st) .none kV doc pm an cdv ct) := ⟨⟨oc,od,kV,doc,pm,an,cdv,ct,osl,rfl,l,c⟩,k⟩
end
section
variable {X : Cx}
theorem pv (i : Nat) {x : Str} {pos : Pos} (hN : X.N[i]? = some x := by rfl) (hv : DV X.env.scope x := by first | exact Or.inl rfl | exact Or.inr (Or.inl rfl) | exact Or.inr (Or.inr rfl)) (hd : (x == ("__debug__" : Str)) = false := by decide)
  (hcd : (x == ("__classdict__" : Str)) = false := by decide) : PE X (.Name x pos) (Iu i) := Iv hN hv hd hcd
end
def Ab (H H' : Hp) : Prop := ∀ b o,H b = some o -> H' b = some o
theorem Ab.refl (H : Hp) : Ab H H := fun _ _ h => h
theorem Ab.trans {H1 H2 : Hp} (a : Ab H H1) (b : Ab H1 H2) : Ab H H2 := fun c o h => b c o (a c o h)
theorem Ab.free (e : Ab H H') {l : Addr} (h : H' l = Option.none) : H l = Option.none := by
 cases q : H l with
 | none => rfl
 | some o =>
  rw [e l o q] at h
  cases h
theorem Ab.seq {K : PySem.W.Frag} {a : Addr} {xs : List V} (e : Ab H H') (h : Am K H a xs) : Am K H' a xs := by
 rcases h with (h | ⟨o,h⟩) | h
 ·exact .inl (.inl (e _ _ h))
 ·exact .inl (.inr ⟨o,e _ _ h⟩)
 ·exact .inr h
end L2
end
section
namespace L2
open PySem PySem.Spec PyProof.Rows
def Bj (cs : List (Str × Addr)) : List (Str × NameKind) -> List (Str × Addr) -> List (Str × Addr)
  | [],acc => acc
  | (n,k) :: r,acc => if k == .free then (match cs.lookup n with | some a => Bj cs r ((n,a) :: acc) | none => Bj cs r acc) else Bj cs r acc
theorem Hi {env : Env} : ∀ (names : List (Str × NameKind)) (acc : List (Str × Addr)),(∀ y ∈ names,y.2 = .free -> ∃ c,env.cells.lookup y.1 = some c) ->
    (forIn names acc (fun (p : Str × NameKind) (cs : List (Str × Addr)) => do
      if (p.2 == NameKind.free) = true then do
        let a <- cellOf env p.1
        pure (ForInStep.yield ((p.1,a) :: cs))
      else pure (ForInStep.yield cs)) : Sem (List (Str × Addr))) = pure (Bj env.cells names acc)
  | [],acc,_ => rfl
  | (n, k) :: r, acc, h => by
    rw [List.forIn_cons]
    by_cases hk : (k == NameKind.free) = true
    . obtain ⟨c,hc⟩ := h (n,k) List.mem_cons_self (by simpa using hk)
      have hc' : env.cells.lookup n = some c := hc
      simp only [hk,if_true,cellOf,hc',Bj]
      exact Hi r _ fun y hy => h y (List.mem_cons_of_mem _ hy)
    . have hk' : (k == NameKind.free) = false := by simpa using hk
      simp only [hk',Bool.false_eq_true,if_false,Bj]
      exact Hi r _ fun y hy => h y (List.mem_cons_of_mem _ hy)
theorem Jj {env : Env} {scope : Scope} (h : ∀ y ∈ scope.names,y.2 = .free -> ∃ c,env.cells.lookup y.1 = some c) : closureFor scope env = pure (Bj env.cells scope.names []) := by
 have q := Hi (env := env) scope.names [] h
 unfold closureFor
 simp only []
 have e : (forIn scope.names ([] : List (Str × Addr)) (fun (p : Str × NameKind) (cs : List (Str × Addr)) => do
   if (p.2 == NameKind.free) = true then do
    let a <- cellOf env p.1
    pure (ForInStep.yield ((p.1,a) :: cs))
   else pure (ForInStep.yield cs)) : Sem (List (Str × Addr))) >>= (fun cs => pure cs) = pure (Bj env.cells scope.names []) := by rw [q]; rfl
 exact e
theorem DA {cs : List (Str × Addr)} {x : Str} {c : Addr} : ∀ (names : List (Str × NameKind)) (acc : List (Str × Addr)),(Bj cs names acc).lookup x = some c -> cs.lookup x = some c \/ acc.lookup x = some c
  | [],_,h => .inr h
  | (n, k) :: r, acc, h => by
    unfold Bj at h
    split at h
    . cases hc : cs.lookup n with
      | none => rw [hc] at h; exact DA r acc h
      | some a =>
        rw [hc] at h
        rcases DA r _ h with q | q
        . exact .inl q
        . rw [List.lookup_cons] at q
          cases hx : x == n with
          | true => rw [hx] at q; rw [beq_iff_eq.mp hx,hc]; exact .inl q
          | false => rw [hx] at q; exact .inr q
    . exact DA r acc h
theorem FE {cs : List (Str × Addr)} {x : Str} {c : Addr} (hc : cs.lookup x = some c) : ∀ (names : List (Str × NameKind)) (acc : List (Str × Addr)),acc.lookup x = some c -> (Bj cs names acc).lookup x = some c
  | [],_,h => h
  | (n, k) :: r, acc, h => by
    unfold Bj
    split
    . cases hn : cs.lookup n with
      | none => exact FE hc r acc h
      | some a =>
        refine FE hc r _ ?_
        rw [List.lookup_cons]
        cases hx : x == n with
        | true => rw [beq_iff_eq.mp hx,hn] at hc; exact hc
        | false => exact h
    . exact FE hc r acc h
theorem EG {cs : List (Str × Addr)} {x : Str} {c : Addr} (hc : cs.lookup x = some c) : ∀ (names : List (Str × NameKind)) (acc : List (Str × Addr)),(x,NameKind.free) ∈ names -> (Bj cs names acc).lookup x = some c
  | [],_,h => nomatch h
  | (n, k) :: r, acc, h => by
    unfold Bj
    rcases List.mem_cons.mp h with e | h
    . cases e
      simp only [beq_self_eq_true,if_true,hc]
      exact FE hc r _ (by simp [List.lookup_cons])
    . split
      . cases hn : cs.lookup n with
        | none => exact EG hc r acc h
        | some a => exact EG hc r _ h
      . exact EG hc r acc h
theorem DY {x : Str} {c : Addr} : ∀ (names : List (Str × NameKind)) (n : Nat) (acc : List (Str × Addr)),(cellsFrom n names acc).lookup x = some c -> n <= c \/ acc.lookup x = some c
  | [],_,_,h => .inr h
  | (y, k) :: r, n, acc, h => by
    unfold cellsFrom at h
    split at h
    . rcases DY r (n + 1) _ h with q | q
      . exact .inl (by omega)
      . rw [List.lookup_cons] at q
        cases hx : x == y with
        | true => rw [hx] at q; cases q; exact .inl (Nat.le_refl _)
        | false => rw [hx] at q; exact .inr q
    . exact DY r n acc h
theorem Hj {x : Str} {c : Addr} {lo : Nat} : ∀ (names : List (Str × NameKind)) (n : Nat) (acc : List (Str × Addr)),lo <= n -> ((x,NameKind.cell) ∈ names \/ ∀ c,acc.lookup x = some c -> lo <= c) -> (cellsFrom n names acc).lookup x = some c -> lo <= c
  | [],_,_,_,hm,h => hm.elim (fun z => nomatch z) fun z => z c h
  | (y, k) :: r, n, acc, hl, hm, h => by
    unfold cellsFrom at h
    split at h
    . rename_i hk
      refine Hj r (n + 1) _ (by omega) ?_ h
      by_cases hx : x = y
      . refine .inr fun c' q => ?_
        rw [List.lookup_cons,hx,beq_self_eq_true] at q
        cases q; exact hl
      . rcases hm with hm | hm
        . rcases List.mem_cons.mp hm with e | hm
          . cases e; exact absurd rfl hx
          . exact .inl hm
        . refine .inr fun c' q => hm c' ?_
          rw [List.lookup_cons,beq_eq_false_iff_ne.mpr hx] at q
          exact q
    . rename_i hk
      refine Hj r n acc hl ?_ h
      rcases hm with hm | hm
      . rcases List.mem_cons.mp hm with e | hm
        . cases e; exact absurd rfl hk
        . exact .inl hm
      . exact .inr hm
theorem Hk {x : Str} {c : Addr} : ∀ (names : List (Str × NameKind)) (n : Nat) (acc : List (Str × Addr)),(x,NameKind.cell) ∉ names -> acc.lookup x = some c -> (cellsFrom n names acc).lookup x = some c
  | [],_,_,_,h => h
  | (y, k) :: r, n, acc, hm, h => by
    have hm' : (x,NameKind.cell) ∉ r := fun z => hm (List.mem_cons_of_mem _ z)
    unfold cellsFrom
    split
    . rename_i hk
      refine Hk r (n + 1) _ hm' ?_
      rw [List.lookup_cons]
      cases hx : x == y with
      | true =>
        have e1 : k = NameKind.cell := by simpa using hk
        exact absurd (by rw [beq_iff_eq.mp hx,e1]; exact List.mem_cons_self) hm
      | false => exact h
    . exact Hk r n acc hm' h
theorem Hl {x : Str} : ∀ (names : List (Str × NameKind)) (n : Nat) (acc : List (Str × Addr)),((x,NameKind.cell) ∈ names \/ ∃ c,acc.lookup x = some c) -> ∃ c,(cellsFrom n names acc).lookup x = some c
  | [],_,_,hm => hm.elim (fun z => nomatch z) fun z => z
  | (y, k) :: r, n, acc, hm => by
    unfold cellsFrom
    split
    . rename_i hk
      refine Hl r (n + 1) _ ?_
      by_cases hx : x = y
      . exact .inr ⟨n,by rw [hx,List.lookup_cons,beq_self_eq_true]⟩
      . rcases hm with hm | ⟨c,hm⟩
        . rcases List.mem_cons.mp hm with e | hm
          . cases e; exact absurd rfl hx
          . exact .inl hm
        . exact .inr ⟨c,by rw [List.lookup_cons,beq_eq_false_iff_ne.mpr hx]; exact hm⟩
    . rename_i hk
      refine Hl r n acc ?_
      rcases hm with hm | hm
      . rcases List.mem_cons.mp hm with e | hm
        . cases e; exact absurd rfl hk
        . exact .inl hm
      . exact .inr hm
theorem Hm : ∀ (names : List (Str × NameKind)) (n : Nat) (acc : List (Str × Addr)),(∀ x c,acc.lookup x = some c -> c < n) -> (∀ x y c,acc.lookup x = some c -> acc.lookup y = some c -> x = y) ->
    ∀ x y c,(cellsFrom n names acc).lookup x = some c -> (cellsFrom n names acc).lookup y = some c -> x = y
  | [],_,_,_,hi => hi
  | (z, k) :: r, n, acc, hb, hi => by
    unfold cellsFrom
    split
    . refine Hm r (n + 1) _ (fun x c q => ?_) fun x y c q q' => ?_
      . rw [List.lookup_cons] at q
        cases hx : x == z with
        | true => rw [hx] at q; cases q; exact Nat.lt_succ_self _
        | false => rw [hx] at q; exact Nat.lt_succ_of_lt (hb x c q)
      . rw [List.lookup_cons] at q q'
        cases hx : x == z with
        | true =>
          rw [hx] at q; cases q
          cases hy : y == z with
          | true => rw [beq_iff_eq.mp hx,beq_iff_eq.mp hy]
          | false => rw [hy] at q'; exact absurd (hb y _ q') (Nat.lt_irrefl _)
        | false =>
          rw [hx] at q
          cases hy : y == z with
          | true => rw [hy] at q'; cases q'; exact absurd (hb x _ q) (Nat.lt_irrefl _)
          | false => rw [hy] at q'; exact hi x y c q q'
    . exact Hm r n acc hb hi
theorem Hn : ∀ (names : List (Str × NameKind)) (h : Heap) (acc : List (Str × Addr)) {x : Str} {c : Addr},(cellsFrom h.objs.size names acc).lookup x = some c -> (pushCells h names).IsCell c none \/ acc.lookup x = some c
  | [],_,_,_,_,q => .inr q
  | (z, k) :: r, h, acc, x, c, q => by
    unfold cellsFrom at q
    unfold pushCells
    split at q
    . rename_i hk
      rw [if_pos hk]
      have e : (h.push { cls := .type "cell",data := .cell none }).objs.size = h.objs.size + 1 := Heap.size_push ..
      rw [<- e] at q
      rcases Hn r _ _ q with q | q
      . exact .inl q
      . rw [List.lookup_cons] at q
        cases hx : x == z with
        | true =>
          rw [hx] at q; cases q
          refine .inl ?_
          have w : (h.push { cls := .type "cell",data := .cell none }).IsCell h.objs.size none := ⟨_,Heap.get?_push_size _ rfl,rfl⟩
          exact w.keeps (pushCells_keeps r _)
        | false => rw [hx] at q; exact .inr q
    . rename_i hk
      rw [if_neg hk]
      exact Hn r h acc q
def Ho (scope : Scope) (env : Env) (C : Addr) : Env :=
  { scope := relabel scope env,locals := C,globals := env.globals,cells := cellsFrom (C + 1) scope.names (Bj env.cells scope.names []),qual := env.qual,func := none,code := env.code,frame := env.frame,builtins := env.builtins }
theorem Jk {M : Model} {A : Around} {E : Value -> Shared -> Prop} {s : Shared} {scope : Scope} {env : Env} {cl : List (Str × Addr)} {Q : Env -> Shared -> Prop}
    (h : Q { scope := scope,locals := s.heap.objs.size,globals := env.globals,cells := cellsFrom (s.heap.objs.size + 1) scope.names cl,qual := env.qual,func := none,code := env.code,frame := env.frame,builtins := env.builtins }
      { s with heap := pushCells (s.heap.push { cls := .type "dict",data := .dict #[] }) scope.names }) :
    wpAny M A (newFunctionEnv scope env.globals cl [] env.qual none .none (some env)) Q E s := by
  have top : ({ s with heap := s.heap.push { cls := .type "dict",data := .dict #[] } } : Shared).heap.objs.size = s.heap.objs.size + 1 := Heap.size_push ..
  rw [<- top] at h
  unfold newFunctionEnv
  simp only [Option.isSome_some,if_true]
  exact wpAny_bind (wpAny_alloc (wpAny_bind (wpAny_layCells _ (fun n k cs => by by_cases c : (k == NameKind.cell) = true <;> simp [c]) _ _ _ _ (wpAny_bind (wpAny_pure (wpAny_pure h))))))
structure AG (sc : Scope) (N : List Str) (scope : Scope) (N' : List Str) (cap : List (Option Nat)) : Prop where
 kind : scope.kind = .function
 free : ∀ y ∈ scope.names,y.2 = .free -> sc.names.lookup y.1 = some .cell \/ sc.names.lookup y.1 = some .free
 len : cap.length = N'.length
 capt : ∀ (i j : Nat),cap[i]? = some (some j) -> ∃ x : Str,N'[i]? = some x /\ N[j]? = some x /\ (x,NameKind.free) ∈ scope.names /\ (x,NameKind.cell) ∉ scope.names
 names : ∀ y ∈ scope.names,y.2 = .local -> scope.names.lookup y.1 = some .local
 own : ∀ y ∈ scope.names,scope.names.lookup y.1 = some y.2
def Jl (sc : Scope) (N : List Str) (scope : Scope) (N' : List Str) (cap : List (Option Nat)) : Bool :=
  scope.kind == .function && (scope.names.all fun y => y.2 != .free || sc.names.lookup y.1 == some .cell || sc.names.lookup y.1 == some .free) && cap.length == N'.length &&
    ((List.range cap.length).all fun i => match cap[i]? with
      | some (some j) => (match N'[i]?, N[j]? with
        | some x,some y => x == y && scope.names.any (fun z => z.1 == x && z.2 == .free) && scope.names.all (fun z => !(z.1 == x && z.2 == .cell))
        | _,_ => false)
      | _ => true) && scope.names.all fun y => scope.names.lookup y.1 == some y.2
theorem AG.of {sc : Scope} {N : List Str} {scope : Scope} {N' : List Str} {cap : List (Option Nat)} (h : Jl sc N scope N' cap = true) : AG sc N scope N' cap := by
 unfold Jl at h
 simp only [Bool.and_eq_true] at h
 obtain ⟨⟨⟨⟨h1,h2⟩,h3⟩,h4⟩,h5⟩ := h
 have own : ∀ y ∈ scope.names,scope.names.lookup y.1 = some y.2 := fun y hy => by
  have := List.all_eq_true.mp h5 y hy
  simpa using this
 refine ⟨by simpa using h1,fun y hy hf => ?_,by simpa using h3,fun i j e => ?_,fun y hy hl => by rw [own y hy,hl],own⟩
 ·have := List.all_eq_true.mp h2 y hy
  rw [hf] at this
  simpa using this
 ·have hi : i < cap.length := (List.getElem?_eq_some_iff.mp e).1
  have := List.all_eq_true.mp h4 i (List.mem_range.mpr hi)
  rw [e] at this
  dsimp only at this
  cases hx : N'[i]? with
  | none => rw [hx] at this; simp at this
  | some x =>
   cases hy : N[j]? with
   | none => rw [hx,hy] at this; simp at this
   | some y =>
    rw [hx,hy] at this
    simp only [Bool.and_eq_true] at this
    obtain ⟨⟨t1,t2⟩,t3⟩ := this
    have e1 : x = y := by simpa using t1
    subst e1
    obtain ⟨z,hz,t⟩ := List.any_eq_true.mp t2
    simp only [Bool.and_eq_true] at t
    have z1 : z.1 = x := by simpa using t.1
    have z2 : z.2 = .free := by simpa using t.2
    have ez : z = (x,NameKind.free) := by rw [<- z1,<- z2]
    refine ⟨x,rfl,rfl,ez ▸ hz,fun hm => ?_⟩
    have := List.all_eq_true.mp t3 _ hm
    simp at this
def AK (cap : List (Option Nat)) (σ : St) : St := cap.map fun o => match o with | some j => (match σ[j]? with | some v => v | none => none) | none => none
def BX (X : Cx) (cs : List Expr) (t : TT) : Prop :=
 ∀ (pins : List (Addr × Obj)) (s : Shared) (σ : St) (H : Hp) (Q : Bool -> Hp -> Prop),Ae X pins σ H s -> t σ H Q ->
  wpAny (model X.prog X.w) X.A (forIn cs true fun c r => if r = true then do let ok <- isTrue c X.env (eval c X.env); pure (ForInStep.yield ok) else pure (ForInStep.yield r)) (TP X pins σ Q) X.xe s
def MM : TT := fun _ H Q => Q true H
theorem A3 {X : Cx} : BX X [] MM := fun _ _ σ H Q I h => wpAny_tests_nil ⟨H,I,h⟩
theorem CG {X : Cx} {c : Expr} {t : TT} (h : PT X c t) : BX X [c] t := fun pins s σ H Q I q => wpAny_tests_one (h pins s σ H Q I q)
def AM (X : Cx) (N' : List Str) (scope : Scope) (s : Shared) (H : Hp) (ex : List Addr) (C : Addr) : Cx :=
  { X with N := N',s₀ := s,H₀ := H,env := Ho scope X.env C,outer := X.stack,ex := ex,fn := fun x => scope.names.any fun z => z.1 == x && z.2 == .cell,pn := [],xe := fun _ _ => False }
theorem FF {env : Env} {x : Str} : ∀ (names : List (Str × NameKind)),(names.map fun (n,k) => if (k == NameKind.free && env.scope.kind == .function && env.kindOf n == some .cell) then (n,NameKind.cell) else (n,k)).lookup x =
    (names.lookup x).map fun k => if (k == NameKind.free && env.scope.kind == .function && env.kindOf x == some .cell) then NameKind.cell else k
  | [] => rfl
  | (n, k) :: r => by
    have ih := FF (env := env) (x := x) r
    show List.lookup x ((if (k == NameKind.free && env.scope.kind == .function && env.kindOf n == some .cell) = true then (n,NameKind.cell) else (n,k)) :: _) = _
    cases hx : x == n with
    | true =>
      have e : x = n := beq_iff_eq.mp hx
      subst e
      split <;> simp_all [List.lookup_cons]
    | false =>
      have e : (List.lookup x ((n,k) :: r)) = r.lookup x := by rw [List.lookup_cons,hx]
      rw [e,<- ih]
      split <;> simp [List.lookup_cons,hx]
section
variable {X : Cx} {pins : List (Addr × Obj)} {σ : St} {H : Hp} {s : Shared} {scope : Scope} {N' : List Str} {cap : List (Option Nat)} {fp : List Addr}
theorem MN (I : Ae X pins σ H s) (B : AG X.env.scope X.N scope N' cap) (hf : ∀ b ∈ fp,Bq X pins H b) (hlt : ∀ b ∈ fp,b < s.heap.objs.size) {C : Addr} (hC : s.heap.objs.size <= C) :
  (AM X N' scope s H fp C).Ok := by
 have clt : ∀ x c,X.env.cells.lookup x = some c -> c < s.heap.objs.size := fun x c e => let ⟨_,q⟩ := I.cell x c e; q.lt
 have acc : ∀ x c,(Bj X.env.cells scope.names []).lookup x = some c -> X.env.cells.lookup x = some c := fun x c e => (DA _ _ e).elim id fun z => nomatch z
 refine ⟨I.ok.mod,B.kind,I.ok.glob,I.ok.blt,hC,fun x y c h1 h2 => ?_,fun x hx => ?_,fun x c hx h => ?_,I.ok.hd,I.ok.frames,.inl rfl,fun b hb => ⟨?_,fun x c h e => ?_⟩,I.bs,Nat.le_trans I.ok.bsz I.sz,fun b o e hb => ?_,fun b hb z => ?_,I.stack,I.stkFree⟩
 ·exact Hm scope.names (C + 1) _ (fun x c e => Nat.lt_succ_of_lt (Nat.lt_of_lt_of_le (clt x c (acc x c e)) hC)) (fun x y c e e' => I.ok.inj x y c (acc x c e) (acc y c e')) x y c h1 h2
 ·have hx' : (relabel scope X.env).names.lookup x = some .cell \/ (relabel scope X.env).names.lookup x = some .free := hx
  have hl : (scope.names.lookup x).isSome = true := by
   unfold relabel at hx'
   rw [FF] at hx'
   cases q : scope.names.lookup x with
   | none => rw [q] at hx'; rcases hx' with z | z <;> cases z
   | some k => rfl
  obtain ⟨k,hk⟩ := Option.isSome_iff_exists.mp hl
  have hm := PySem.mem_of_lookup hk
  refine Hl scope.names (C + 1) _ ?_
  cases k with
  | cell => exact .inl hm
  | free =>
   refine .inr ?_
   obtain ⟨c,hc⟩ := I.ok.has x (B.free _ hm rfl)
   exact ⟨c,EG hc _ _ hm⟩
  | _ =>
   unfold relabel at hx'
   rw [FF,hk] at hx'
   rcases hx' with z | z <;> simp at z
 ·have hx' : (scope.names.any fun z => z.1 == x && z.2 == .cell) = true := hx
  obtain ⟨z,hz,t⟩ := List.any_eq_true.mp hx'
  simp only [Bool.and_eq_true] at t
  have z1 : z.1 = x := by simpa using t.1
  have z2 : z.2 = .cell := by simpa using t.2
  have ez : z = (x,NameKind.cell) := by rw [<- z1,<- z2]
  have := Hj (lo := C + 1) scope.names (C + 1) _ (Nat.le_refl _) (.inl (ez ▸ hz)) h
  exact Nat.le_trans hC (Nat.le_of_succ_le this)
 ·exact Nat.ne_of_lt (Nat.lt_of_lt_of_le (hlt b hb) hC)
 ·rcases DY scope.names (C + 1) _ h with q | q
  ·have := hlt b hb
   rw [<- e] at this
   exact absurd (Nat.lt_of_lt_of_le this (Nat.le_trans hC (Nat.le_of_succ_le q))) (Nat.lt_irrefl _)
  ·exact (hf b hb).2.2.2.2.1 x c (acc x c q) e
 ·obtain ⟨_,_,_,f3,_⟩ := hf b hb
  rcases f3 with f3 | f3
  ·exact I.ok.noex b o e f3
  ·exact absurd (Nat.lt_of_lt_of_le (Heap.lt_size e) (Nat.le_trans I.ok.bsz f3)) (Nat.lt_irrefl _)
 ·obtain ⟨_,f1,f2,_⟩ := hf b hb
  rcases List.mem_cons.mp (I.stkSub b z) with q | q
  ·exact f1 q
  ·exact f2 q
theorem Jm (I : Ae X pins σ H s) (B : AG X.env.scope X.N scope N' cap) (hf : ∀ b ∈ fp,Bq X pins H b) (hlt : ∀ b ∈ fp,b < s.heap.objs.size) {h3 : Heap} (hk : ∀ b o,s.heap.get? b = some o -> h3.get? b = some o) (hsz : s.heap.objs.size <= h3.objs.size) :
  Ae (AM X N' scope s H fp h3.objs.size) [] (AK cap σ) H { s with heap := pushCells (h3.push { cls := .type "dict",data := .dict #[] }) scope.names } := by
 have acc : ∀ x c,(Bj X.env.cells scope.names []).lookup x = some c -> X.env.cells.lookup x = some c := fun x c e => (DA _ _ e).elim id fun z => nomatch z
 have hk3 : ∀ b o,h3.get? b = some o -> (pushCells (h3.push { cls := .type "dict",data := .dict #[] }) scope.names).get? b = some o := fun b o e => pushCells_keeps _ _ b o (Heap.get?_push_of_some _ e)
 have hk4 : ∀ b o,s.heap.get? b = some o -> (pushCells (h3.push { cls := .type "dict",data := .dict #[] }) scope.names).get? b = some o := fun b o e => hk3 b o (hk b o e)
 refine ⟨MN I B hf hlt hsz,rfl,I.bare,Un.kept hk4,⟨fun _ => none,(Heap.Ns.new h3 (.type "dict")).keeps (pushCells_keeps _ _),fun i x v h1 h2 h4 => ?_⟩,fun x c h => ?_,?_,fun x c h => ?_,fun p hp => absurd (show p ∈ ([] : List (Addr × Obj)) from hp) (by simp),I.hok.kept hk4,?_⟩
 ·have h2' : (AK cap σ)[i]? = some (some v) := h2
  unfold AK at h2'
  rw [List.getElem?_map] at h2'
  cases q : cap[i]? with
  | none => rw [q] at h2'; cases h2'
  | some o =>
   rw [q] at h2'
   cases o with
   | none => exact nomatch Option.some.inj h2'
   | some j =>
    have h2'' : (match σ[j]? with | some v => v | none => none) = some v := Option.some.inj h2'
    cases qs : σ[j]? with
    | none => rw [qs] at h2''; cases h2''
    | some v' =>
     rw [qs] at h2''
     have hs : σ[j]? = some (some v) := by rw [qs]; exact congrArg some h2''
     obtain ⟨x',e1,e2,e3,e4⟩ := B.capt i j q
     have h1' : N'[i]? = some x := h1
     rw [h1'] at e1; cases e1
     have hcf := B.free _ e3 rfl
     obtain ⟨m,hn,hl⟩ := I.loc
     obtain ⟨u,ru,lk⟩ := hl j x v e2 hs (hcf.elim (fun z => .inr (.inl z)) fun z => .inr (.inr z))
     refine ⟨u,ru,?_⟩
     rcases lk with ⟨lk,_⟩ | ⟨_,c,hc,ic⟩
     ·have lk' : X.env.scope.names.lookup x = some .local := lk
      have hcf' : X.env.scope.names.lookup x = some .cell \/ X.env.scope.names.lookup x = some .free := hcf
      rw [lk'] at hcf'; rcases hcf' with z | z <;> cases z
     ·refine .inr ⟨?_,c,Hk _ _ _ e4 (EG hc _ _ e3),ic.keeps hk4⟩
      have : (relabel scope X.env).names.lookup x = some .cell \/ (relabel scope X.env).names.lookup x = some .free := by
       unfold relabel
       rw [FF,B.own _ e3]
       dsimp only [Option.map]
       split
       ·exact .inl rfl
       ·exact .inr rfl
      exact this
 ·have h' : (cellsFrom (h3.objs.size + 1) scope.names (Bj X.env.cells scope.names [])).lookup x = some c := h
  have e : (h3.push { cls := .type "dict",data := .dict #[] }).objs.size = h3.objs.size + 1 := Heap.size_push ..
  rw [<- e] at h'
  rcases Hn _ _ _ h' with q | q
  ·exact ⟨_,q⟩
  ·obtain ⟨v,z⟩ := I.cell x c (acc x c q)
   exact ⟨v,z.keeps hk4⟩
 ·exact I.hok.fresh hsz
 ·rcases DY scope.names (h3.objs.size + 1) _ h with q | q
  ·exact I.hok.fresh (Nat.le_trans hsz (Nat.le_of_succ_le q))
  ·exact I.freeC x c (acc x c q)
 ·show (AK cap σ).length = N'.length
  unfold AK
  rw [List.length_map]
  exact B.len
end
end L2
end
section
namespace L2
open PySem PySem.Spec PyProof.Rows
variable {E : Expr} {Y : Cx} {a : Addr} {PB : List (Addr × Obj)} {σ : St} {zs xs : List V} {H : Hp} {its : List Value} {k : Nat} {te : TE} {wi : TI} {tt : TT} {cap : List (Option Nat)} {Q : List V -> Hp -> Prop}
def Keep : St -> St -> Prop
 | [],[] => True
 | none :: r,_ :: r' => Keep r r'
 | some v :: r,o :: r' => o = some v /\ Keep r r'
 | _,_ => False
theorem Keep.len : ∀ {a b : St},Keep a b -> a.length = b.length
 | [],[],_ => rfl
 | none :: r,_ :: r',h => by have h' : Keep r r' := h; simp [Keep.len h']
 | some v :: r,o :: r',h => by have h' : o = some v /\ Keep r r' := h; simp [Keep.len h'.2]
theorem Keep.get : ∀ {a b : St} {i : Nat} {v : V},Keep a b -> a[i]? = some (some v) -> b[i]? = some (some v)
 | [],[],_,_,_,e => by simp at e
 | none :: r,_ :: r',0,v,h,e => by simp at e
 | none :: r,_ :: r',i + 1,v,h,e => by
  have h' : Keep r r' := h
  simpa using Keep.get (i := i) h' (by simpa using e)
 | some v :: r,o :: r',0,w,h,e => by
  have h' : o = some v /\ Keep r r' := h
  simp at e
  simp [h'.1,e]
 | some v :: r,o :: r',i + 1,w,h,e => by
  have h' : o = some v /\ Keep r r' := h
  simpa using Keep.get (i := i) h'.2 (by simpa using e)
def br (c : Bool) (A B : Prop) : Prop := (c = true -> A) /\ (c = false -> B)
def Hq (wi : TI) (cap : List (Option Nat)) (g : TG) (tt : TT) (te : TE) : St -> Hp -> (List V -> Hp -> Prop) -> Prop := fun σ H Q => wi σ H fun J H1 =>
 ∃ W : Nat -> Nat -> List V -> Hp -> Prop,(∃ m,W 0 m [] H1) /\ ∀ i m ys H,W i m ys H ->
  (J.stop i H /\ Q ys H) \/
  (J.go i H /\ ys.length < sizeLine /\ ∃ N : List V -> Hp -> Prop, (∀ ys' H', N ys' H' -> ∃ m', m' < m /\ W (i + 1) m' ys' H') /\ ∀ x H', J.yld i H x H' -> g x (AK cap σ) H' fun σ2 H2 => Keep (AK cap σ) σ2 /\ tt σ2 H2 fun b H3 =>
   br b (te σ2 H3 fun y H4 => N (ys ++ [y]) H4) (N ys H3))
structure FG (X : Cx) (pins : List (Addr × Obj)) (C : Addr) (H : Hp) (s : Shared) : Prop where
 ns : ∃ m,s.heap.Ns C m
 free : H C = none
 loc : C ≠ X.env.locals
 sz : X.s₀.heap.objs.size <= C
 cell : ∀ x c,X.env.cells.lookup x = some c -> c ≠ C
 pin : ∀ p ∈ X.pn ++ pins,p.1 ≠ C
abbrev TB := St -> List V -> Hp -> (List V -> Hp -> Prop) -> Prop
def EH (E : Expr) (d : Nat) (tg it : Expr) (ifs : List Expr) (body : Sem PySem.Fin) (itv acc : Value) (env : Env) : Sem PySem.Fin := do
  standAt it.pos
  let r <- pyNext itv
  match r with
   | none => pure (Fin.done Flow.next)
   | some v => do
    letOwnedTupleGo tg itv v
    assign tg env v
    let ok <- forIn ifs true fun c r => if r = true then do let ok <- PySem.isTrue c env (eval c env); pure (ForInStep.yield ok) else pure (ForInStep.yield r)
    if ok = true then body else again (Code.compLoop E d itv acc env)
def FH (E : Expr) (d : Nat) (elt : Expr) (itv acc : Value) (env : Env) : Sem PySem.Fin := do
  let _ <- (do
   let x <- eval elt env
   let _ <- call (Value.builtin "list.append") [acc,x]
   pure ())
  again (Code.compLoop E d itv acc env)
def Hr (E : Expr) (d : Nat) (it2 : Expr) (itv acc : Value) (env : Env) : Sem PySem.Fin := do
  let x <- eval it2 env
  standAt it2.pos
  let x <- foldedSetIterable it2 env x
  let j <- holding [x] (pyIter x)
  let _ <- runOwn (Code.compStart E (d + 1) j acc env) env
  again (Code.compLoop E d itv acc env)
abbrev FI (M : Model) (A : Around) (E : Expr) (d : Nat) (itv acc : Value) (env : Env) (body : Sem PySem.Fin) (P : Shared -> Prop) (s : Shared) : Prop := wpAny M A body (fun fin s' => fin = .again (.compLoop E d itv acc env) /\ P s') (fun _ _ => False) s
section
variable {prog : Program} {w : World} {A : Around} {R : Result -> Shared -> Prop} {s : Shared} {e0 tg it elt it2 : Expr} {gs : List Comprehension} {ifs : List Expr} {sc : Scope} {ps : Pos} {itv acc : Value} {env : Env} {d : Nat} {body : Sem PySem.Fin} {P : Shared -> Prop}
theorem MO (h : wpAny (model prog w) A (eval elt env) (fun x s₄ => wpAny (model prog w) A (call (.builtin "list.append") [acc,x]) (fun _ s₅ => P s₅) (fun _ _ => False) s₄) (fun _ _ => False) s) : FI (model prog w) A E d itv acc env (FH E d elt itv acc env) P s :=
 wpAny_bind (wpAny_bind (wpAny_mono h (fun x s₄ h₄ => wpAny_bind (wpAny_mono h₄ (fun _ s₅ h₅ => wpAny_pure (wpAny_pure ⟨rfl,h₅⟩)) fun _ _ h' => h'.elim)) fun _ _ h' => h'.elim))
theorem MP (hs : ∀ x,foldedSetIterable it2 env x = pure x) (h : wpAny (model prog w) A (eval it2 env) (fun x s₄ => wpAny (model prog w) A (pyIter x) (fun j s₅ => codeAny (model prog w) (A.mark none) (.compStart E (d + 1) j acc env) (fun r s₆ => r = .ok .next /\ P s₆) s₅) (fun _ _ => False) s₄) (fun _ _ => False) s) : FI (model prog w) A E d itv acc env (Hr E d it2 itv acc env) P s := by
 refine wpAny_bind (wpAny_mono h (fun x s₄ h₄ => wpAny_bind (wpAny_standAt ?_)) fun _ _ h' => h'.elim)
 rw [hs]
 refine wpAny_bind (wpAny_pure (wpAny_bind (wpAny_holding (wpAny_mono h₄ (fun j s₅ h₅ => ?_) fun _ _ h' => h'.elim))))
 refine wpAny_bind (wpAny_runOwn (codeAny_mono h₅ fun r s₆ h₆ => ?_))
 obtain ⟨rfl,h₆⟩ := h₆
 exact wpAny_pure ⟨rfl,h₆⟩
theorem MQ (ht : compTurn (.ListComp e0 gs sc ps) d itv acc env = EH (.ListComp e0 gs sc ps) d tg it ifs body itv acc env) (I : Nat -> Shared -> Prop)
  (turn : ∀ n s, I n s -> wpAny (model prog w) A (pyNext itv) (fun r s₁ => match r with
   | none => R (.ok .next) s₁
   | some v => wpAny (model prog w) A (letOwnedTupleGo tg itv v) (fun _ s₁' => wpAny (model prog w) A (assign tg env v) (fun _ s₂ =>
     wpAny (model prog w) A (forIn ifs true fun c r => if r = true then do let ok <- isTrue c env (eval c env); pure (ForInStep.yield ok) else pure (ForInStep.yield r)) (fun ok s₃ =>
      if ok = true then FI (model prog w) A (.ListComp e0 gs sc ps) d itv acc env body (fun s₅ => ∃ m,m < n /\ I m s₅) s₃
      else ∃ m,m < n /\ I m s₃) (fun _ _ => False) s₂) (fun _ _ => False) s₁') (fun _ _ => False) s₁) (fun _ _ => False) s)
  (n : Nat) (h : I n s) : codeAny (model prog w) A (.compLoop (.ListComp e0 gs sc ps) d itv acc env) R s := by
 refine codeAny_loop rfl I (fun n s hI => ?_) n h
 show wpAny _ A ((compTurn (.ListComp e0 gs sc ps) d itv acc env).onRaise (fun x => do noteFrame x env; theTreesLotGoes x)) _ _ s
 refine wpAny_noted ?_
 rw [ht]
 unfold EH
 refine wpAny_bind (wpAny_standAt (wpAny_bind (wpAny_mono (turn n s hI) (fun r s₁ h₁ => ?_) fun _ _ h' => h'.elim)))
 cases r with
 | none => exact wpAny_pure h₁
 | some v =>
  refine wpAny_bind (wpAny_mono h₁ (fun _ s₁' h₁' => ?_) fun _ _ h' => h'.elim)
  refine wpAny_bind (wpAny_mono h₁' (fun _ s₂ h₂ => wpAny_bind (wpAny_mono h₂ (fun ok s₃ h₃ => ?_) fun _ _ h' => h'.elim)) fun _ _ h' => h'.elim)
  cases ok with
  | false => exact wpAny_pure ⟨rfl,h₃⟩
  | true => exact wpAny_mono h₃ (fun fin s₅ ⟨e,q⟩ => by subst e; exact ⟨rfl,q⟩) fun _ _ h' => h'.elim
end
structure CV (Y : Cx) (a : Addr) : Prop where
 loc : a ≠ Y.env.locals
 fs : a ∉ Y.fs
 sz : a ∈ Y.ex \/ Y.s₀.heap.objs.size <= a
 cell : ∀ x c,Y.env.cells.lookup x = some c -> c ≠ a
 pn : Y.pn = []
 calm : Y.calm = true
abbrev DB (its : List Value) (k : Nat) : Obj := { cls := .type "list",data := .seq its.toArray k }
structure Grown (Y : Cx) (a : Addr) (PB : List (Addr × Obj)) (σ : St) (zs : List V) (H : Hp) (s : Shared) : Prop where
 inv : Ae Y PB σ H s
 no : H a = none
 len : zs.length <= sizeLine
 at' : ∃ its k,s.heap.get? a = some (DB its k) /\ Ar zs its
theorem Grown.pin {s : Shared} (A : CV Y a) (g : Grown Y a PB σ zs H s) (e : s.heap.get? a = some (DB its k)) : Ae Y ((a,DB its k) :: PB) σ H s :=
 g.inv.pins_of fun p hp => by
  rcases List.mem_cons.mp hp with rfl | hp
  ·exact ⟨e,g.no,A.loc,A.fs,fun v z => by
    have z' : Data.seq its.toArray k = Data.cell v := z
    cases z'⟩
  ·exact g.inv.pin p (List.mem_append_right _ hp)
theorem Ae.grown {s : Shared} (I : Ae Y ((a,DB its k) :: PB) σ H s) (hz : zs.length <= sizeLine) (v : Ar zs its) : Grown Y a PB σ zs H s := by
 have q := I.pin (a,DB its k) (List.mem_append_right _ List.mem_cons_self)
 exact ⟨I.pins_of fun p hp => I.pin p (List.mem_append_right _ (List.mem_cons_of_mem _ hp)),q.2.1,hz,its,k,q.1,v⟩
def Jn : List V -> Prop -> Prop := fun zs p => zs.length < sizeLine /\ p
def MR : List V -> Prop -> Prop := fun _ p => p
def EI (Y : Cx) (a : Addr) (E : Expr) (d : Nat) (body : Value -> Sem PySem.Fin) (C : List V -> Prop) (B : TB) : Prop :=
 ∀ (jt : Value) (PB : List (Addr × Obj)) (σ : St) (zs : List V) (H : Hp) (s : Shared) (N : List V -> Hp -> Prop) (P : Shared -> Prop),(∀ p ∈ PB,p.1 ≠ a) -> Grown Y a PB σ zs H s -> C zs -> B σ zs H N -> (∀ zs' H' s',Grown Y a PB σ zs' H' s' -> N zs' H' -> P s') -> FI (model Y.prog Y.w) Y.A E d jt (.ref a) Y.env (body jt) P s
theorem Jo {e0 tg it : Expr} {gs : List Comprehension} {ifs : List Expr} {sc : Scope} {ps : Pos} {d m0 : Nat} {Y : Cx} {a jt : Addr} {PB : List (Addr × Obj)} {g : TG} {tt : TT} {B : TB} {C : List V -> Prop} {Z : List V -> Prop -> Prop} {body : Value -> Sem PySem.Fin} {fp : List Addr} {tn : Nat -> Heap -> Prop} {J : It} {W : Nat -> Nat -> List V -> Hp -> Prop} {σ : St} {ys : List V} {H : Hp} {s : Shared} {N : List V -> Hp -> Prop} {R : Result -> Shared -> Prop}
  (A : CV Y a) (hPB : ∀ p ∈ PB,p.1 ≠ a) (ht : ∀ itv,compTurn (.ListComp e0 gs sc ps) d itv (.ref a) Y.env = EH (.ListComp e0 gs sc ps) d tg it ifs (body itv) itv (.ref a) Y.env) (hx : Y.xe = fun _ _ => False) (hg : PG Y tg g) (htt : BX Y ifs tt) (hb : EI Y a (.ListComp e0 gs sc ps) d body C B) (hZ : ∀ zs p,Z zs p -> C zs /\ p)
  (T : Cr Y.prog Y.w Y.K tg J fp jt tn) (na : ∀ b ∈ fp,b ≠ a) (fpY : ∀ {o : Obj} {H' : Hp},(∀ b ∈ fp,H' b = none) -> ∀ b ∈ fp,Bq Y ((a,o) :: PB) H' b) (st : tn 0 s.heap) (gr : Grown Y a PB σ ys H s) (hn : ∀ b ∈ fp,H b = none) (w0 : W 0 m0 ys H)
  (turn : ∀ j m zs H,W j m zs H -> (J.stop j H /\ N zs H) \/ (J.go j H /\ Z zs (∃ N2 : List V -> Hp -> Prop,(∀ zs' H',N2 zs' H' -> ∃ m',m' < m /\ W (j + 1) m' zs' H') /\ ∀ x H',J.yld j H x H' -> g x σ H' fun σ3 H2 => Keep σ σ3 /\ tt σ3 H2 fun b H3 => br b (B σ3 zs H3 N2) (N2 zs H3))))
  (back : ∀ zs H' s',Grown Y a PB σ zs H' s' -> N zs H' -> R (.ok .next) s') : codeAny (model Y.prog Y.w) Y.A (.compLoop (.ListComp e0 gs sc ps) d (.ref jt) (.ref a) Y.env) R s := by
 refine MQ (ht _) (fun n' s' => ∃ (j : Nat) (zs : List V) (H' : Hp),Grown Y a PB σ zs H' s' /\ tn j s'.heap /\ (∀ b ∈ fp,H' b = none) /\ W j n' zs H') ?_ m0 ⟨0,ys,H,gr,st,hn,w0⟩
 rintro n' s12 ⟨j,zs,H12,g12,st12,fr12,w12⟩
 obtain ⟨its',k',e12,v12⟩ := g12.at'
 have I12 := g12.pin A e12
 rcases turn j n' zs H12 w12 with ⟨stop,q⟩ | ⟨go2,hz0⟩
 ·refine An (T.done Y rfl rfl rfl A.calm j _ s12 _ H12 _ I12 (fpY fr12) st12 stop) fun r s13 ⟨hr,I13⟩ => ?_
  subst hr
  exact back zs H12 s13 (Ae.grown I13 g12.len v12) q
 ·obtain ⟨hC,N2,hN2,step2⟩ := hZ _ _ hz0
  refine An (T.item Y rfl rfl rfl A.calm j _ s12 _ H12 _ I12 (fpY fr12) st12 go2) fun r s13 ⟨u2,hr,h13⟩ => ?_
  subst hr
  refine An h13 fun _ s14 ⟨x2,H14,I14,r14,y14,st14,fr14⟩ => ?_
  have I14' := I14.pinned (fpY fr14) (T.obj _ _ st14)
  have hgY := hg _ s14 _ H14 x2 u2 _ I14' r14 (step2 x2 H14 y14)
  rw [hx] at hgY
  refine An hgY fun _ s15 ⟨σ15,H15,I15,kp2,q15⟩ => ?_
  have htY := htt _ s15 σ15 H15 _ I15 q15
  rw [hx] at htY
  refine An htY fun b2 s16 ⟨H16,I16,q16⟩ => ?_
  have pn : ∀ p ∈ PB ++ Cs fp s14.heap,p.1 ≠ a := fun p hp => by
   rcases List.mem_append.mp hp with hp | hp
   ·exact hPB p hp
   ·exact na p.1 (G7 hp).1
  have back2 : ∀ {σ' : St} {zs' : List V} {H' : Hp} {s' : Shared},Keep σ σ' -> Grown Y a (PB ++ Cs fp s14.heap) σ' zs' H' s' -> N2 zs' H' -> ∃ m,m < n' /\ ∃ (j : Nat) (zs : List V) (H' : Hp),Grown Y a PB σ zs H' s' /\ tn j s'.heap /\ (∀ b ∈ fp,H' b = none) /\ W j m zs H' := fun {σ' zs' H' s'} kp G n2 => by
   obtain ⟨m',hm,w16⟩ := hN2 _ _ n2
   refine ⟨m',hm,j + 1,zs',H',⟨(G.inv.pins_of fun p hp => G.inv.pin p (List.mem_append_right _ (List.mem_append_left _ hp))).weak (by rw [kp.len]) fun i v e => kp.get e,G.no,G.len,G.at'⟩,T.keep _ _ _ st14 fun b hb o e => (G.inv.pin (b,o) (List.mem_append_right _ (List.mem_append_right _ (DW hb e)))).1,fun b hb => ?_,w16⟩
   obtain ⟨o,e,d⟩ := T.obj _ _ st14 b hb
   exact (G.inv.pin (b,o) (List.mem_append_right _ (List.mem_append_right _ (DW hb e)))).2.1
  have g16 : Grown Y a (PB ++ Cs fp s14.heap) σ15 zs H16 s16 := Ae.grown I16 g12.len v12
  cases b2 with
  | false =>
   rw [if_neg Bool.false_ne_true]
   exact back2 kp2 g16 (q16.2 rfl)
  | true =>
   rw [if_pos rfl]
   exact hb _ _ _ _ _ _ _ _ pn g16 hC (q16.1 rfl) fun zs' H' s' G n2 => back2 kp2 G n2
def Hs (te : TE) : TB := fun σ zs H N => te σ H fun y H4 => N (zs ++ [y]) H4
theorem Jp {elt : Expr} {d : Nat} (A : CV Y a) (hx : Y.xe = fun _ _ => False) (he : PE Y elt te) : EI Y a E d (fun jt => FH E d elt jt (.ref a) Y.env) (fun zs => zs.length < sizeLine) (Hs te) := by
 intro jt PB σ zs H s N P hPB gr zlt h back
 obtain ⟨its',k',e12,v12⟩ := gr.at'
 have I16 := gr.pin A e12
 have heY := he _ s σ H _ I16 h
 rw [hx] at heY
 refine MO (An heY fun yv s17 ⟨y,H17,I17,r17,n17⟩ => ?_)
 have gI := Ae.grown I17 gr.len v12
 have b4 := (I17.pin (a,DB its' k') (List.mem_append_right _ List.mem_cons_self)).1
 have hl := v12.length
 refine call_meets F.slot_list_append ⟨_,b4,rfl⟩ F.entry_list_append (F.args_list_append_2 _ _) (PySem.list_append a its'.toArray k' yv (by rw [List.size_toArray]; omega)) ⟨b4,?_⟩
 have q := PySem.IsL.update b4 (fun a => a.push yv)
 have eqp : its'.toArray.push yv = (its' ++ [yv]).toArray := by simp
 rw [eqp] at q
 have I18 : Ae Y PB σ H17 { s17 with heap := s17.heap.update a (Obj.mapSeq fun a => a.push yv),toks := s17.toks } :=
  gI.inv.turned (it := a) (fun b o hb e => (Heap.get?_update_other s17.heap _ (Ne.symm hb)).trans e) gI.no A.loc A.sz A.cell fun p hp z => by
   rw [A.pn,List.nil_append] at hp
   exact hPB p hp z
 exact back (zs ++ [y]) H17 _ ⟨I18,gI.no,by rw [List.length_append,List.length_singleton]; omega,its' ++ [yv],_,q,v12.append (.cons r17 .nil)⟩ n17
def Jq (Z : List V -> Prop -> Prop) (wi : TI) (g : TG) (tt : TT) (B : TB) : TB := fun σ ys H N => wi σ H fun J H1 => ∃ W : Nat -> Nat -> List V -> Hp -> Prop,(∃ m,W 0 m ys H1) /\ ∀ j m zs H,W j m zs H ->
  (J.stop j H /\ N zs H) \/ (J.go j H /\ Z zs (∃ N2 : List V -> Hp -> Prop,(∀ zs' H',N2 zs' H' -> ∃ m',m' < m /\ W (j + 1) m' zs' H') /\ ∀ x H',J.yld j H x H' -> g x σ H' fun σ3 H2 => Keep σ σ3 /\ tt σ3 H2 fun b H3 => br b (B σ3 zs H3 N2) (N2 zs H3)))
theorem MS {e0 tg it : Expr} {gs : List Comprehension} {ifs : List Expr} {sc : Scope} {ps : Pos} {d : Nat} {g : TG} {B : TB} {C : List V -> Prop} {Z : List V -> Prop -> Prop} {body : Value -> Sem PySem.Fin} (A : CV Y a) (hx : Y.xe = fun _ _ => False) (hs : ∀ x,foldedSetIterable it Y.env x = pure x)
  (ht : ∀ itv,compTurn (.ListComp e0 gs sc ps) (d + 1) itv (.ref a) Y.env = EH (.ListComp e0 gs sc ps) (d + 1) tg it ifs (body itv) itv (.ref a) Y.env)
  (hst : ∀ {R : Result -> Shared -> Prop} {s : Shared} {j : Value},codeAny (model Y.prog Y.w) Y.A (.compLoop (.ListComp e0 gs sc ps) (d + 1) j (.ref a) Y.env) R s -> wpAny (model Y.prog Y.w) Y.A (pyIter j) (fun j' s' => codeAny (model Y.prog Y.w) Y.A (.compLoop (.ListComp e0 gs sc ps) (d + 1) j' (.ref a) Y.env) R s') (notedBy (model Y.prog Y.w) Y.A Y.env fun x s' => R (.error x) s') s -> codeAny (model Y.prog Y.w) Y.A (.compStart (.ListComp e0 gs sc ps) (d + 1) j (.ref a) Y.env) R s)
  (hi : PI Y tg it wi) (hg : PG Y tg g) (htt : BX Y ifs tt) (hb : EI Y a (.ListComp e0 gs sc ps) (d + 1) body C B) (hZ : ∀ zs p,Z zs p -> C zs /\ p) : EI Y a (.ListComp e0 gs sc ps) d (fun jt => Hr (.ListComp e0 gs sc ps) d it jt (.ref a) Y.env) (fun _ => True) (Jq Z wi g tt B) := by
 intro jt0 PB σ ys H s N P hPB gr _ h back
 obtain ⟨its,k,ee,v0⟩ := gr.at'
 have I0 := gr.pin A ee
 have base := hi _ s σ H _ I0 h
 rw [hx] at base
 refine MP hs (An base fun v9 s9 h9 => An h9 fun itv2 s10 h10 => ?_)
 obtain ⟨jt,fp,tn,J,H10,e10,I10,T,st10,f10,W,⟨m2,w2⟩,turn⟩ := h10
 subst e10
 have g10 := Ae.grown I10 gr.len v0
 have ne2 : ∀ b ∈ fp,b ≠ a /\ ∀ p ∈ PB,p.1 ≠ b := fun b hb => by
  obtain ⟨_,_,_,_,_,f5⟩ := f10 b hb
  exact ⟨fun z => f5 (a,DB its k) (List.mem_append_right _ List.mem_cons_self) z.symm,fun p hp => f5 p (List.mem_append_right _ (List.mem_cons_of_mem _ hp))⟩
 have fpY : ∀ {o : Obj} {H' : Hp},(∀ b ∈ fp,H' b = none) -> ∀ b ∈ fp,Bq Y ((a,o) :: PB) H' b := fun {o H'} hn b hb => by
  obtain ⟨_,f1,f2',f3,f4,_⟩ := f10 b hb
  refine ⟨hn b hb,f1,f2',f3,f4,fun p hp e => ?_⟩
  rw [A.pn,List.nil_append] at hp
  rcases List.mem_cons.mp hp with rfl | hp
  ·exact (ne2 b hb).1 e.symm
  ·exact (ne2 b hb).2 p hp e
 have loop : codeAny (model Y.prog Y.w) Y.A (.compLoop (.ListComp e0 gs sc ps) (d + 1) (.ref jt) (.ref a) Y.env) (fun r s₆ => r = .ok .next /\ P s₆) s10 :=
  Jo A hPB ht hx hg htt hb hZ T (fun b hb => (ne2 b hb).1) fpY st10 g10 (fun b hb => (f10 b hb).1) w2 turn fun zs H' s' G n => ⟨rfl,back zs H' s' G n⟩
 exact hst loop (T.self _ 0 _ _ _ st10 loop)
theorem Jr {X : Cx} {tg iter e0 : Expr} {gs : List Comprehension} {ifs : List Expr} {scope : Scope} {pos pos' : Pos} {wi : TI} {g : TG} {tt : TT} {Bt : TB} {Cd : List V -> Prop} (Z : List V -> Prop -> Prop) {N' : List Str} {cap : List (Option Nat)} {use : Option (Value -> Sem Unit)} {Q' : Value -> Shared -> Prop} {body : Value -> Value -> Env -> Sem PySem.Fin}
  {pins : List (Addr × Obj)} {s : Shared} {σ : St} {H : Hp} {Q : List V -> Hp -> Prop}
  (hc : X.calm = true) (hi : PI X tg iter wi) (B : AG X.env.scope X.N scope N' cap) (hg : ∀ s H ex C,PG (AM X N' scope s H ex C) tg g) (ht : ∀ s H ex C,BX (AM X N' scope s H ex C) ifs tt)
  (htn : ∀ itv acc env,compTurn (.ListComp e0 (⟨tg,iter,ifs,0⟩ :: gs) scope pos) 0 itv acc env = EH (.ListComp e0 (⟨tg,iter,ifs,0⟩ :: gs) scope pos) 0 tg iter ifs (body itv acc env) itv acc env)
  (hbd : ∀ s H ex C a,CV (AM X N' scope s H ex C) a -> EI (AM X N' scope s H ex C) a (.ListComp e0 (⟨tg,iter,ifs,0⟩ :: gs) scope pos) 0 (fun itv => body itv (.ref a) (AM X N' scope s H ex C).env) Cd Bt) (hZ : ∀ zs p,Z zs p -> Cd zs /\ p)
  (hs : ∀ x,foldedSetIterable iter X.env x = pure x) (I : Ae X pins σ H s)
  (h : wi σ H fun J H1 => ∃ W : Nat -> Nat -> List V -> Hp -> Prop,(∃ m,W 0 m [] H1) /\ ∀ i m ys H,W i m ys H -> (J.stop i H /\ Q ys H) \/ (J.go i H /\ Z ys (∃ N : List V -> Hp -> Prop,(∀ ys' H',N ys' H' -> ∃ m',m' < m /\ W (i + 1) m' ys' H') /\ ∀ x H',J.yld i H x H' -> g x (AK cap σ) H' fun σ2 H2 => Keep (AK cap σ) σ2 /\ tt σ2 H2 fun b H3 => br b (Bt σ2 ys H3 N) (N ys H3))))
  (fin : ∀ (acc C : Addr) (H : Hp) (ys : List V) (s' : Shared),H acc = none -> Ae X pins σ (upd H acc (.lst ys)) s' -> FG X pins C (upd H acc (.lst ys)) s' -> Q ys H -> compPost (model X.prog X.w) X.A X.xe use Q' (.ref acc) C (.ok .next) s') :
  wpAny (model X.prog X.w) X.A (comprehension (.ListComp e0 (⟨tg,iter,ifs,0⟩ :: gs) scope pos) scope X.env pos' (newList []) false (eval iter X.env) use) Q' X.xe s := by
 have hclos : closureFor scope X.env = pure (Bj X.env.cells scope.names []) := Jj fun y hy hf => I.ok.has y.1 (B.free y hy hf)
 refine wpAny_comprehension_free (cl := Bj X.env.cells scope.names []) rfl hs hclos B.kind B.names (An (hi pins s σ H _ I h) fun v s1 h1 => An h1 fun itv s2 h2 => ?_)
 obtain ⟨it,fp,tn,J,H2,e,I2,T,st2,f2,W,⟨m0,w0⟩,turn⟩ := h2
 subst e
 refine wpAny_newObj_type (Jk ?_)
 dsimp only
 generalize hH3 : s2.heap.push { cls := .type "list",dict := none,data := .seq ([] : List Value).toArray } = h3
 have hsz3 : h3.objs.size = s2.heap.objs.size + 1 := by rw [<- hH3]; exact Heap.size_push ..
 have hk3 : ∀ b o,s2.heap.get? b = some o -> h3.get? b = some o := fun b o e => by rw [<- hH3]; exact Heap.get?_push_of_some _ e
 have hacc3 : h3.get? s2.heap.objs.size = some { cls := .type "list",data := .seq ([] : List Value).toArray } := by rw [<- hH3]; exact Heap.get?_push_size _ rfl
 have hlt : ∀ b ∈ fp,b < s2.heap.objs.size := fun b hb => let ⟨o,e,_⟩ := T.obj _ _ st2 b hb; Heap.lt_size e
 have I4 := Jm I2 B f2 hlt hk3 (by rw [hsz3]; exact Nat.le_succ _)
 have acc4 : (pushCells (h3.push { cls := .type "dict",data := .dict #[] }) scope.names).get? s2.heap.objs.size = some { cls := .type "list",data := .seq ([] : List Value).toArray } := pushCells_keeps _ _ _ _ (Heap.get?_push_of_some _ hacc3)
 have st4 : tn 0 (pushCells (h3.push { cls := .type "dict",data := .dict #[] }) scope.names) := T.keep _ _ _ st2 fun b _ o e => pushCells_keeps _ _ _ _ (Heap.get?_push_of_some _ (hk3 b o e))
 have haC : s2.heap.objs.size ≠ h3.objs.size := by rw [hsz3]; exact Nat.ne_of_lt (Nat.lt_succ_self _)
 have haN : s2.heap.objs.size ∉ Bx X.stack := fun z => by
  rcases List.mem_cons.mp (I2.stkSub _ z) with q | q
  ·exact absurd I2.lt (by rw [<- q]; exact Nat.lt_irrefl _)
  ·exact I2.nofs (Nat.le_refl _) q
 have okY := I4.ok
 have fpY : ∀ {pins' : List (Addr × Obj)} {H' : Hp},(∀ b ∈ fp,H' b = none) -> (∀ p ∈ pins',p.1 = s2.heap.objs.size) -> ∀ b ∈ fp,Bq (AM X N' scope s2 H2 fp h3.objs.size) pins' H' b := fun {pins' H'} hn hp b hb =>
  ⟨hn b hb, (okY.exf b hb).1, okY.exfs b hb, .inl hb, (okY.exf b hb).2, fun p z e => by
   have z' : p ∈ pins' := z
   have := hlt b hb
   rw [<- e,hp p z'] at this
   exact Nat.lt_irrefl _ this⟩
 have cellNe : ∀ x c,(AM X N' scope s2 H2 fp h3.objs.size).env.cells.lookup x = some c -> c ≠ s2.heap.objs.size := fun x c ec z => by
  rcases DY scope.names (h3.objs.size + 1) _ ec with q' | q'
  ·rw [z,hsz3] at q'
   exact absurd q' (by omega)
  ·have ec' : X.env.cells.lookup x = some c := (DA _ _ q').elim id fun z => nomatch z
   obtain ⟨_,q''⟩ := I2.cell x c ec'
   have := q''.lt
   rw [z] at this
   exact Nat.lt_irrefl _ this
 have loop : ∀ s4 : Shared,s4 = { s2 with heap := pushCells (h3.push { cls := .type "dict",data := .dict #[] }) scope.names } ->
   codeAny (model X.prog X.w) X.A (.compLoop (.ListComp e0 (⟨tg,iter,ifs,0⟩ :: gs) scope pos) 0 (.ref it) (.ref s2.heap.objs.size) (Ho scope X.env h3.objs.size)) (compPost (model X.prog X.w) X.A X.xe use Q' (.ref s2.heap.objs.size) h3.objs.size) s4 := by
  rintro s4 rfl
  have A0 : CV (AM X N' scope s2 H2 fp h3.objs.size) s2.heap.objs.size := ⟨haC,haN,.inr (Nat.le_refl _),cellNe,rfl,hc⟩
  refine Jo (Y := AM X N' scope s2 H2 fp h3.objs.size) (PB := []) (W := W) A0 (fun p hp => absurd hp (by simp)) (fun _ => htn _ _ _) rfl (hg _ _ _ _) (ht _ _ _ _) (hbd _ _ _ _ _ A0) hZ T (fun b hb z => absurd (hlt b hb) (by rw [z]; exact Nat.lt_irrefl _))
   (fun {o H'} hn b hb => fpY hn (fun p hp => by rw [List.mem_singleton.mp hp]) b hb) st4 ⟨I4,I2.hok.fresh (Nat.le_refl _),Nat.zero_le _,[],0,acc4,.nil⟩ (fun b hb => (f2 b hb).1) w0 turn fun ys H5 s6 G q => ?_
  obtain ⟨its,k,e6,v5⟩ := G.at'
  have fa5 := G.no
  have z5 := G.len
  have I6 := G.inv
  have nacc : ∀ b u,H5 b = some u -> b ≠ s2.heap.objs.size := fun b u q z => by rw [z,fa5] at q; cases q
  have un : Un (Bx X.stack) fp H2 (upd H5 s2.heap.objs.size (.lst ys)) s2.heap s6.heap := by
   have u := I6.base
   refine ⟨u.keep,u.slot,fun b o q n hx => ?_,u.there,fun b xs q => ?_,fun b o xs q => ?_,fun b ps q => ?_⟩
   ·rw [Au (Nat.ne_of_lt (Heap.lt_size q))]
    exact u.free b o q n hx
   ·have z := u.tups b xs q
    rw [Au (nacc b _ z)]; exact z
   ·have z := u.frzs b o xs q
    rw [Au (nacc b _ z)]; exact z
   ·obtain ⟨more,z⟩ := u.tbls b ps q
    exact ⟨more,by rw [Au (nacc b _ z)]; exact z⟩
  have hok : HOk X.prog X.w (upd H5 s2.heap.objs.size (.lst ys)) s6.heap := fun b u q => by
   by_cases hb : b = s2.heap.objs.size
   ·subst hb
    rw [Ai] at q; cases q
    exact ⟨z5,its,k,v5,e6⟩
   ·rw [Au hb] at q
    have o6 : ObjOk X.prog X.w H5 s6.heap b u := I6.hok b u q
    exact o6.stay (fun _ _ _ e => e) (fun c z => by rw [Au (nacc c _ z)]; exact z) fun c xs z => by rw [Au (nacc c _ z)]; exact z
  have IX : Ae X pins σ (upd H5 s2.heap.objs.size (.lst ys)) s6 := I2.call' (show s6.os = s2.os from I6.os) un hok I6.bare fun b hb => let f := f2 b hb; ⟨f.2.2.2.1,f.2.1,f.2.2.2.2.1,f.2.2.2.2.2⟩
  have hCs : s2.heap.objs.size <= h3.objs.size := by rw [hsz3]; exact Nat.le_succ _
  refine fin _ _ H5 ys s6 fa5 IX ⟨let ⟨m,hn,_⟩ := I6.loc; ⟨m,hn⟩,?_,?_,Nat.le_trans I2.sz hCs,fun x c ec z => ?_,fun p hp z => ?_⟩ q
  ·rw [Au (Ne.symm haC)]; exact I6.free
  ·exact Nat.ne_of_gt (Nat.lt_of_lt_of_le I2.lt hCs)
  ·obtain ⟨_,q⟩ := I2.cell x c ec
   have := q.lt
   rw [z] at this
   exact absurd (Nat.lt_of_lt_of_le this hCs) (Nat.lt_irrefl _)
  ·have := Heap.lt_size (I2.pin p hp).1
   rw [z] at this
   exact absurd (Nat.lt_of_lt_of_le this hCs) (Nat.lt_irrefl _)
 exact codeAny_compStart_list (loop _ rfl) (T.self _ 0 _ _ _ st4 (loop _ rfl))
theorem Js {X : Cx} {tg iter elt : Expr} {ifs : List Expr} {scope : Scope} {pos pos' : Pos} {wi : TI} {g : TG} {tt : TT} {te : TE} {N' : List Str} {cap : List (Option Nat)} {use : Option (Value -> Sem Unit)} {Q' : Value -> Shared -> Prop}
  {pins : List (Addr × Obj)} {s : Shared} {σ : St} {H : Hp} {Q : List V -> Hp -> Prop}
  (hc : X.calm = true) (hi : PI X tg iter wi) (B : AG X.env.scope X.N scope N' cap) (hg : ∀ s H ex C,PG (AM X N' scope s H ex C) tg g) (ht : ∀ s H ex C,BX (AM X N' scope s H ex C) ifs tt) (he : ∀ s H ex C,PE (AM X N' scope s H ex C) elt te)
  (hs : ∀ x,foldedSetIterable iter X.env x = pure x) (I : Ae X pins σ H s) (h : Hq wi cap g tt te σ H Q)
  (fin : ∀ (acc C : Addr) (H : Hp) (ys : List V) (s' : Shared),H acc = none -> Ae X pins σ (upd H acc (.lst ys)) s' -> FG X pins C (upd H acc (.lst ys)) s' -> Q ys H -> compPost (model X.prog X.w) X.A X.xe use Q' (.ref acc) C (.ok .next) s') :
  wpAny (model X.prog X.w) X.A (comprehension (.ListComp elt [⟨tg,iter,ifs,0⟩] scope pos) scope X.env pos' (newList []) false (eval iter X.env) use) Q' X.xe s :=
 Jr Jn (body := fun itv acc env => FH (.ListComp elt [⟨tg,iter,ifs,0⟩] scope pos) 0 elt itv acc env) (Bt := Hs te) hc hi B hg ht (fun _ _ _ => rfl) (fun s H ex C a A => Jp A rfl (he s H ex C)) (fun _ _ z => z) hs I h fin
def MT (wi : TI) (cap : List (Option Nat)) (g : TG) (tt : TT) (te : TE) : TE := fun σ H Q => Hq wi cap g tt te σ H fun ys H' => ∀ p,H' p = none -> Q (.ref p) (upd H' p (.lst ys))
theorem A4 {X : Cx} {tg iter elt : Expr} {ifs : List Expr} {scope : Scope} {pos : Pos} {wi : TI} {g : TG} {tt : TT} {te : TE} (N' : List Str) (cap : List (Option Nat))
  (hc : X.calm = true) (hi : PI X tg iter wi) (B : AG X.env.scope X.N scope N' cap) (hg : ∀ s H ex C,PG (AM X N' scope s H ex C) tg g) (ht : ∀ s H ex C,BX (AM X N' scope s H ex C) ifs tt) (he : ∀ s H ex C,PE (AM X N' scope s H ex C) elt te)
  (hs : ∀ x,foldedSetIterable iter X.env x = pure x := by intro _; rfl) : PE X (.ListComp elt [⟨tg,iter,ifs,0⟩] scope pos) (MT wi cap g tt te) := by
 intro pins s σ H Q I h
 rw [eval_ListComp]
 refine Js (use := none) hc hi B hg ht he hs I h fun acc C H ys s' hn I' L q => ?_
 obtain ⟨m,hm⟩ := L.ns
 refine ⟨m,hm,fun h' hsb => ⟨.ref acc,_,I'.turned (t' := s'.toks) (it := C) (fun b o hb e => hsb.extBut b o hb e) L.free L.loc (.inr L.sz) L.cell L.pin,rfl,q acc hn⟩⟩
def MU (i : Nat) (wi : TI) (cap : List (Option Nat)) (g : TG) (tt : TT) (te : TE) : TS := fun D σ H => Hq wi cap g tt te σ H fun ys H' => ∀ p,H' p = none -> D.nx (σ.set i (some (.ref p))) (upd H' p (.lst ys))
theorem Ht {X : Cx} {i : Nat} {y : Str} {tg iter elt : Expr} {ifs : List Expr} {scope : Scope} {pos pos' pos'' : Pos} {g : TG} (N' : List Str) (cap : List (Option Nat)) (hN : X.N.Nodup) (hin : X.N[i]? = some y) (hy : C9 X.env.scope y)
  (hc : X.calm = true) (hi : PI X tg iter wi) (B : AG X.env.scope X.N scope N' cap) (hg : ∀ s H ex C,PG (AM X N' scope s H ex C) tg g) (ht : ∀ s H ex C,BX (AM X N' scope s H ex C) ifs tt) (he : ∀ s H ex C,PE (AM X N' scope s H ex C) elt te)
  (hsw : swapsWith (.ListComp elt [⟨tg,iter,ifs,0⟩] scope pos) (some (.Name y pos')) pos''.line X.env = pure true := by rfl)
  (hf : X.fn y = true \/ X.env.scope.names.lookup y = some .local := by first | exact .inl rfl | exact .inr rfl | assumption)
  (hs : ∀ x,foldedSetIterable iter X.env x = pure x := by intro _; rfl) : PS X (.Assign [.Name y pos'] (.ListComp elt [⟨tg,iter,ifs,0⟩] scope pos) pos'') (MU i wi cap g tt te) := by
 intro pins s σ H D I h
 rw [exec_Assign_Name_used _ _ _ _ hsw]
 refine wpAny_bind (wpAny_standAt (wpAny_bind ?_))
 show wpAny _ X.A (do let _ <- comprehension (.ListComp elt [⟨tg,iter,ifs,0⟩] scope pos) scope X.env _ (newList []) false (eval iter X.env) (some (assign (.Name y pos') X.env))) _ _ s
 refine wpAny_bind (wpAny_mono (Js (use := some (assign (.Name y pos') X.env)) (Q' := fun _ s' => SP X pins D .next s') hc hi B hg ht he hs I h fun acc C H ys s' hn I' L q => ?_) (fun _ s' hq => wpAny_pure (wpAny_pure hq)) fun _ _ e => e)
 obtain ⟨m,hm⟩ := L.ns
 refine wpAny_assign_Name (GZ I' hN hin hy (show Ay (.ref acc) (.ref acc) from rfl) (fun s'' I'' ⟨a,sb,ha⟩ => ?_) hf)
 have hCa : C ≠ a := by
  rcases ha with e | e
  ·rw [e]; exact L.loc
  ·exact fun z => L.cell _ _ e z.symm
 refine ⟨m,hm.sameBut sb hCa,fun h' hsb => ?_⟩
 exact ⟨_,_,I''.turned (t' := s''.toks) (it := C) (fun b o hb e => hsb.extBut b o hb e) L.free L.loc (.inr L.sz) L.cell L.pin,q acc hn⟩
def Dj (J : It) (cap : List (Option Nat)) (g : TG) (tt : TT) (te : TE) (σ : St) (Q : List V -> Hp -> Prop) (H1 : Hp) : Prop :=
 ∃ W : Nat -> Nat -> List V -> Hp -> Prop,(∃ m,W 0 m [] H1) /\ ∀ i m ys H,W i m ys H ->
  (J.stop i H /\ Q ys H) \/
  (J.go i H /\ ys.length < sizeLine /\ ∃ N : List V -> Hp -> Prop, (∀ ys' H', N ys' H' -> ∃ m', m' < m /\ W (i + 1) m' ys' H') /\ ∀ x H', J.yld i H x H' -> g x (AK cap σ) H' fun σ2 H2 => Keep (AK cap σ) σ2 /\ tt σ2 H2 fun b H3 =>
   br b (te σ2 H3 fun y H4 => N (ys ++ [y]) H4) (N ys H3))
theorem DC {J : It} {g : TG} (n : Nat) (Pv : Nat -> List V -> Hp -> Prop) (hn : n <= 100000) (h0 : Pv 0 [] H) (hz : ∀ i ys H,Pv i ys H -> ys.length <= i)
  (hs : ∀ i ys H,i < n -> Pv i ys H -> J.go i H /\ ∀ x H',J.yld i H x H' -> g x (AK cap σ) H' fun σ2 H2 => Keep (AK cap σ) σ2 /\ tt σ2 H2 fun b H3 => br b (te σ2 H3 fun y H4 => Pv (i + 1) (ys ++ [y]) H4) (Pv (i + 1) ys H3))
  (hd : ∀ ys H,Pv n ys H -> J.stop n H /\ Q ys H) : Dj J cap g tt te σ Q H := by
 refine ⟨fun i m ys H => m = n - i /\ i <= n /\ Pv i ys H,⟨n,by simp,Nat.zero_le _,h0⟩,?_⟩
 rintro i m ys H ⟨rfl,hi,p⟩
 by_cases hlt : i < n
 ·obtain ⟨a,b⟩ := hs i ys H hlt p
  refine .inr ⟨a,?_,Pv (i + 1),fun ys' H' p' => ⟨n - (i + 1),by omega,rfl,hlt,p'⟩,b⟩
  have := hz i ys H p
  have : (100000 : Nat) < sizeLine := by decide
  omega
 ·have e : i = n := by omega
  subst e
  exact .inl (hd ys H p)
theorem BO {K : PySem.W.Frag} {g : TG} (Pv : Nat -> List V -> Hp -> Prop) (hn : xs.length <= 100000) (h0 : Pv 0 [] H) (hz : ∀ i ys H,Pv i ys H -> ys.length <= i)
  (hl : ∀ i ys H,i <= xs.length -> Pv i ys H -> Ad K H a xs)
  (hs : ∀ i x ys H,xs[i]? = some x -> Pv i ys H -> g x (AK cap σ) H fun σ2 H2 => Keep (AK cap σ) σ2 /\ tt σ2 H2 fun b H3 => br b (te σ2 H3 fun y H4 => Pv (i + 1) (ys ++ [y]) H4) (Pv (i + 1) ys H3))
  (hd : ∀ ys H,Pv xs.length ys H -> Q ys H) : Dj (Dw K a) cap g tt te σ Q H :=
 DC xs.length Pv hn h0 hz (fun i ys H hi p => ⟨⟨xs,xs[i],hl i ys H (Nat.le_of_lt hi) p,by simp [hi]⟩,fun x H' ⟨e,y⟩ => by subst e; exact hs i x ys _ (y xs (hl i ys _ (Nat.le_of_lt hi) p)) p⟩)
  fun ys H p => ⟨⟨xs,hl _ ys H (Nat.le_refl _) p,Nat.le_refl _⟩,hd ys H p⟩
theorem Jt {K : PySem.W.Frag} {g : TG} (Pv : Nat -> List V -> Hp -> Prop) (hn : xs.length <= 100000) (h0 : Pv 0 [] H) (hz : ∀ i ys H,Pv i ys H -> ys.length <= i)
  (hl : ∀ i ys H,i <= xs.length -> Pv i ys H -> Am K H a xs)
  (hs : ∀ i x ys H,xs[i]? = some x -> Pv i ys H -> g x (AK cap σ) H fun σ2 H2 => Keep (AK cap σ) σ2 /\ tt σ2 H2 fun b H3 => br b (te σ2 H3 fun y H4 => Pv (i + 1) (ys ++ [y]) H4) (Pv (i + 1) ys H3))
  (hd : ∀ ys H,Pv xs.length ys H -> Q ys H) : Dj (Dc K a) cap g tt te σ Q H :=
 DC xs.length Pv hn h0 hz (fun i ys H hi p => ⟨⟨xs,xs[i],hl i ys H (Nat.le_of_lt hi) p,by simp [hi]⟩,fun x H' ⟨e,y⟩ => by subst e; exact hs i x ys _ (y xs (hl i ys _ (Nat.le_of_lt hi) p)) p⟩)
  fun ys H p => ⟨⟨xs,hl _ ys H (Nat.le_refl _) p,Nat.le_refl _⟩,hd ys H p⟩
theorem DZ {lo : Int} {n : Nat} {g : TG} (Pv : Nat -> List V -> Hp -> Prop) (hn : n <= 100000) (h0 : Pv 0 [] H) (hz : ∀ i ys H,Pv i ys H -> ys.length <= i)
  (hs : ∀ i ys H,i < n -> Pv i ys H -> g (.int (lo + i)) (AK cap σ) H fun σ2 H2 => Keep (AK cap σ) σ2 /\ tt σ2 H2 fun b H3 => br b (te σ2 H3 fun y H4 => Pv (i + 1) (ys ++ [y]) H4) (Pv (i + 1) ys H3))
  (hd : ∀ ys H,Pv n ys H -> Q ys H) : Dj (CC lo n) cap g tt te σ Q H :=
 DC n Pv hn h0 hz (fun i ys H hi p => ⟨hi,fun x H' ⟨e,y⟩ => by subst e y; exact hs i ys _ hi p⟩) fun ys H p => ⟨Nat.le_refl _,hd ys H p⟩
end L2
end
section
namespace L2
open PySem PySem.Spec PyProof.Rows
open AutoSeq1 (wpAny_loadPart')
section
variable {prog : Program} {w : World} {A : Around} {E : Value -> Shared -> Prop} {s : Shared}
theorem MV {it t : Addr} {i : Nat} {items : Array Value} {x : Value} {Q : Value -> Shared -> Prop} (hit : s.heap.IsTupleIter it t i) (ht : s.heap.IsTuple t items) (hx : items[i]? = some x)
  (hQ : ∀ h',h'.IsTupleIter it t (i + 1) -> Heap.SameBut it s.heap h' -> Q x { s with heap := h' }) : wpAny (model prog w) A (Builtin.SmallTypes.nextOf (.ref it)) Q E s := by
 obtain ⟨o,ho,hc,hd⟩ := id hit; obtain ⟨ol,hol,_,nl,hdl⟩ := ht; unfold Builtin.SmallTypes.nextOf
 refine wpAny_bind (wpAny_callSpecial?_slot (name := Str.ofString "__next__") hit.typeIs F.slot_tuple_iterator_next (wpAny_call_entry F.slot_tuple_iterator_next hit.typeIs F.entry_tuple_iterator_next ?_ (F.args_tuple_iterator_next_1 _)))
 show wpAny _ _ (field (.ref it) 0 >>= _) _ _ s; refine wpAny_bind (wpAny_field ho hd (x := .ref t) rfl ?_)
 show wpAny _ _ (if (Value.ref t == Value.none) = true then _ else _) _ _ s; rw [if_neg (show ¬ ((Value.ref t == Value.none) = true) from Bool.false_ne_true)]
 show wpAny _ _ (field (.ref it) 1 >>= _) _ _ s; refine wpAny_bind (wpAny_field ho hd (x := .int i 0) rfl ?_)
 show wpAny _ _ (seqItems? (.ref t) >>= _) _ _ s; refine wpAny_bind (wpAny_seqItems hol hdl ?_); simp only [Int.toNat_natCast,hx]
 refine wpAny_bind (wpAny_setField ho hd (by simp) (wpAny_pure ⟨x,rfl,wpAny_pure (hQ _ ?_ (Heap.SameBut.update ..))⟩)); exact ⟨_,Heap.get?_update_self _ ho (Obj.isFreed_of_fields (Obj.data_mapFields hd _)),(Obj.cls_mapFields ..).trans hc,by rw [Obj.data_mapFields hd]; simp [rawInt]⟩
theorem MW {it t : Addr} {i : Nat} {items : Array Value} {Q : Value -> Shared -> Prop} (hh : A.handled = none) (hit : s.heap.IsTupleIter it t i) (ht : s.heap.IsTuple t items) (hx : items[i]? = none)
  (hE : ∀ h' e,Heap.ExtBut it s.heap h' -> (∃ o,h'.get? e = some o /\ o.cls = .type "StopIteration") -> E (.ref e) { s with heap := h' }) : wpAny (model prog w) A (Builtin.SmallTypes.nextOf (.ref it)) Q E s := by
 obtain ⟨o,ho,hc,hd⟩ := id hit; obtain ⟨ol,hol,_,nl,hdl⟩ := ht; unfold Builtin.SmallTypes.nextOf
 refine wpAny_bind (wpAny_callSpecial?_slot (name := Str.ofString "__next__") hit.typeIs F.slot_tuple_iterator_next (wpAny_call_entry F.slot_tuple_iterator_next hit.typeIs F.entry_tuple_iterator_next ?_ (F.args_tuple_iterator_next_1 _)))
 show wpAny _ _ (field (.ref it) 0 >>= _) _ _ s; refine wpAny_bind (wpAny_field ho hd (x := .ref t) rfl ?_)
 show wpAny _ _ (if (Value.ref t == Value.none) = true then _ else _) _ _ s; rw [if_neg (show ¬ ((Value.ref t == Value.none) = true) from Bool.false_ne_true)]
 show wpAny _ _ (field (.ref it) 1 >>= _) _ _ s; refine wpAny_bind (wpAny_field ho hd (x := .int i 0) rfl ?_)
 show wpAny _ _ (seqItems? (.ref t) >>= _) _ _ s; refine wpAny_bind (wpAny_seqItems hol hdl ?_); simp only [Int.toNat_natCast,hx]
 refine wpAny_bind (wpAny_rule (wpAny_bind (wpAny_setField ho hd (by simp) ?_))); show wpAny _ _ (newExc (.type "StopIteration") [] >>= _) _ _ _
 refine wpAny_bind ?_; simp only [newExc,newTuple]; refine wpAny_bind (wpAny_newObj_type ?_ (by size_fits))
 refine wpAny_bind (m := firstArgMember _ _) (wpAny_of_eq (a := Value.none) (by first | rfl | (simp only [firstArgMember]; rfl)) ?_); refine wpAny_newObj_type ?_ (by size_fits); simp only [raiseNew]
 refine wpAny_bind (wpAny_handled ?_); first | rw [show A.in1.handled = none from hh] | rw [hh]
 refine wpAny_bind (wpAny_pure (wpAny_throw ?_)); exact hE _ _ (((Heap.SameBut.update ..).extBut.push _).push _) ⟨_,Heap.get?_push_size _ rfl,rfl⟩
end
structure A5 (P : Program) (w : World) (K : PySem.W.Frag) where
 Sq : Hp -> Addr -> List V -> Prop
 It : Heap -> Addr -> Addr -> Nat -> Prop
 Is : Heap -> Addr -> Array Value -> Prop
 obj : Addr -> Obj
 get : ∀ {X : Cx} {pins : List (Addr × Obj)} {σ : St} {H : Hp} {s : Shared} {a : Addr} {xs : List V},X.K = K -> Ae X pins σ H s -> Sq H a xs -> ∃ its : List Value,Ar xs its /\ Is s.heap a its.toArray /\ xs.length <= sizeLine
 inj : ∀ {X : Cx} {pins : List (Addr × Obj)} {σ : St} {H : Hp} {s : Shared} {a : Addr} {xs ys : List V},X.K = K -> Ae X pins σ H s -> Sq H a xs -> Sq H a ys -> xs = ys
 draws : ∀ (A : Around),A.handled = none -> ∀ (it l : Addr),l ≠ it -> ∀ items : Array Value,Draws P w A it [it,l] items.size (fun i v => items[i]? = some v) (fun i h => It h it l i /\ Is h l items)
 ito : ∀ {h : Heap} {it l : Addr} {i : Nat},It h it l i -> ∃ o,h.get? it = some o /\ ∀ v,o.data ≠ .cell v
 itk : ∀ {h h' : Heap} {it l : Addr} {i : Nat},It h it l i -> (∀ o,h.get? it = some o -> h'.get? it = some o) -> It h' it l i
 isk : ∀ {h h' : Heap} {l : Addr} {items : Array Value},Is h l items -> (∀ o,h.get? l = some o -> h'.get? l = some o) -> Is h' l items
 iso : ∀ {h : Heap} {l : Addr} {items : Array Value},Is h l items -> ∃ o,h.get? l = some o
 itn : ∀ (h : Heap) (l : Addr),It (h.push (obj l)) h.objs.size l 0
 itr : ∀ {A : Around} {E : Value -> Shared -> Prop} {s : Shared} {l : Addr} {items : Array Value} {Q : Value -> Shared -> Prop},Is s.heap l items -> Q (.ref s.heap.objs.size) { s with heap := s.heap.push (obj l) } -> wpAny (model P w) A (pyIter (.ref l)) Q E s
def EJ (P : Program) (w : World) (K : PySem.W.Frag) : A5 P w K where
 Sq := fun H a xs => Am K H a xs
 It := fun h it l i => h.IsListIter it l i
 Is := fun h l items => h.IsList l items
 obj := fun l => { cls := .type "list_iterator",data := .fields #[.ref l,.int 0 0] }
 get := fun {X pins σ H s a xs} hK I q => by subst hK; obtain ⟨its,r,p,z⟩ := I.list q; exact ⟨its,r,p.isList,z⟩
 inj := fun {X pins σ H s a xs ys} hK I q q' => by subst hK; exact I.list_inj q q'
 draws := fun A hh it l hne items => Draws.list hh it l hne items
 ito := fun {h it l i} ⟨o,e,c,d⟩ => ⟨o,e,fun v z => by rw [d] at z; cases z⟩
 itk := fun {h h' it l i} x k => x.at k
 isk := fun {h h' l items} x k => x.at k
 iso := fun {h l items} ⟨o,e,_⟩ => ⟨o,e⟩
 itn := fun h l => ⟨_,Heap.get?_push_size _ rfl,rfl,rfl⟩
 itr := fun {A E s l items Q} x q => wpAny_pyIter_list x q
def BP (P : Program) (w : World) (K : PySem.W.Frag) : A5 P w K where
  Sq := fun H a xs => Ad K H a xs
  It := fun h it l i => h.IsTupleIter it l i
  Is := fun h l items => h.IsTuple l items
  obj := fun l => { cls := .type "tuple_iterator",data := .fields #[.ref l,.int 0 0] }
  get := fun {X pins σ H s a xs} hK I q => by subst hK; obtain ⟨its,r,p,z⟩ := I.tuple q; exact ⟨its,r,p,z⟩
  inj := fun {X pins σ H s a xs ys} hK I q q' => by subst hK; exact I.tuple_inj q q'
  draws := fun A hh it l hne items =>
    { live := fun _ _ st => let ⟨o,ho,_⟩ := st.1; ⟨o,ho⟩
      frame := fun _ _ _ st hk => ⟨let ⟨o,e,r⟩ := st.1; ⟨o,hk it (by simp) o e,r⟩,let ⟨o,e,r⟩ := st.2; ⟨o,hk l (by simp) o e,r⟩⟩
      item := fun i s Q E hi st hQ => MV st.1 st.2 (x := items[i]) (by simp [hi]) fun h' hit' hs' => hQ _ h' s.toks (by simp [hi]) ⟨hit',st.2.extBut hs'.extBut hne⟩ hs'
      done := fun s Q E st hE => MW hh st.1 st.2 (by simp) hE }
  ito := fun {h it l i} ⟨o,e,c,d⟩ => ⟨o,e,fun v z => by rw [d] at z; cases z⟩
  itk := fun {h h' it l i} ⟨o,e,r⟩ k => ⟨o,k o e,r⟩
  isk := fun {h h' l items} ⟨o,e,r⟩ k => ⟨o,k o e,r⟩
  iso := fun {h l items} ⟨o,e,_⟩ => ⟨o,e⟩
  itn := fun h l => ⟨_,Heap.get?_push_size _ rfl,rfl,rfl⟩
  itr := fun {A E s l items Q} x q => wpAny_pyIter_tuple x q
end L2
end
section
namespace L2
open PySem PySem.Spec PyProof.Rows
variable {X : Cx} {pins : List (Addr × Obj)} {σ : St} {H : Hp} {s : Shared} {wr : List Addr} {h' : Heap}
open AutoSeq1 (wpAny_loadPart')
theorem Ae.yielded {tk : Nat} {T : Addr} {vs : List V} {us : List Value} (I : Ae X pins σ H s) (hf : ∀ b ∈ wr,Bq X pins H b)
  (k : ∀ b o,b ∉ wr -> s.heap.get? b = some o -> h'.get? b = some o) (hT : s.heap.objs.size <= T) (ht : IsTup h' T us.toArray) (rv : Ar vs us) (hz : vs.length <= sizeLine) :
  Ae X pins σ (upd H T (.tup vs)) { s with heap := h',toks := tk } := by
 have hfr : H T = none := I.hok.fresh hT
 have nT : ∀ b u,H b = some u -> b ≠ T := fun b u e => Bd e hfr
 have nW : ∀ b u,H b = some u -> b ∉ wr := fun b u e z => by have := (hf b z).1; rw [e] at this; cases this
 refine I.step (g' := s.gens) (d' := s.drawn) (ch := wr) (fun b hb => let f := hf b hb; ⟨f.2.2.2.1,f.2.1,f.2.2.2.2.1,f.2.2.2.2.2⟩) (fun b o _ _ hc e _ => k b o hc e) (fun b o _ _ hc e _ => ⟨o.slots,k b o hc e⟩)
  (fun b o hc e n => ?_) (fun b o hc e => ⟨o,k b o hc e⟩) (fun b xs e => by rw [Au (nT b _ e)]; exact e) (fun b o xs e => by rw [Au (nT b _ e)]; exact e) (fun b ps e => ⟨#[],by rw [Au (nT b _ e),e]; simp⟩) (fun m hm => ?_) (fun b u e => ?_) I.bare
 ·rw [Au (Nat.ne_of_lt (Nat.lt_of_lt_of_le (Heap.lt_size e) hT))]; exact n
 ·obtain ⟨o,es,ep,ho,r⟩ := hm
  exact ⟨o,es,ep,k _ o (fun z => (hf _ z).2.1 rfl) ho,r⟩
 ·by_cases hb : b = T
  ·subst hb
   rw [Ai] at e; cases e
   exact ⟨hz,us,rv,ht⟩
  ·rw [Au hb] at e
   refine (I.hok b u e).stay (fun c v hc q => k c v ?_ q) (fun c q => by rw [Au (nT c _ q)]; exact q) fun c xs q => by rw [Au (nT c _ q)]; exact q
   rcases hc with z | z
   ·rw [z]; exact nW b u e
   ·exact nW c _ z
theorem Ae.ended {tk : Nat} (I : Ae X pins σ H s) (hf : ∀ b ∈ wr,Bq X pins H b)
  (k : ∀ b o,b ∉ wr -> s.heap.get? b = some o -> h'.get? b = some o) : Ae X pins σ H { s with heap := h',toks := tk } := by
 have nW : ∀ b u,H b = some u -> b ∉ wr := fun b u e z => by have := (hf b z).1; rw [e] at this; cases this
 refine I.step (g' := s.gens) (d' := s.drawn) (ch := wr) (fun b hb => let f := hf b hb; ⟨f.2.2.2.1,f.2.1,f.2.2.2.2.1,f.2.2.2.2.2⟩) (fun b o _ _ hc e _ => k b o hc e) (fun b o _ _ hc e _ => ⟨o.slots,k b o hc e⟩)
  (fun b o hc e n => n) (fun b o hc e => ⟨o,k b o hc e⟩) (fun b xs e => e) (fun b o xs e => e) (fun b ps e => ⟨#[],by rw [e]; simp⟩) (fun m hm => ?_) (fun b u e => ?_) I.bare
 ·obtain ⟨o,es,ep,ho,r⟩ := hm
  exact ⟨o,es,ep,k _ o (fun z => (hf _ z).2.1 rfl) ho,r⟩
 ·refine (I.hok b u e).stay (fun c v hc q => k c v ?_ q) (fun c q => q) fun c xs q => q
  rcases hc with z | z
  ·rw [z]; exact nW b u e
  ·exact nW c _ z
def D0 {P : Program} {w : World} {K : PySem.W.Frag} (S : A5 P w K) (a : Addr) : It :=
 ⟨fun i H => ∃ xs x,S.Sq H a xs /\ xs[i]? = some x,fun i H v H' => ∃ T,v = .ref T /\ H T = none /\ ∀ xs x,S.Sq H a xs -> xs[i]? = some x -> H' = upd H T (.tup [.int i,x]),fun i H => ∃ xs,S.Sq H a xs /\ xs.length = i⟩
theorem MX {P : Program} {w : World} {K : PySem.W.Frag} (S : A5 P w K) {es : List Expr} {k : Nat} {pos : Pos} (a e it : Addr) (hei : e ≠ it) (hai : a ≠ it) (hae : a ≠ e) :
  Cr P w K (.Tuple es k pos) (D0 S a) [e,it] e (fun i h => (∃ old,IsEnum h e it (i : Nat) old) /\ S.It h it a i) where
 mem := by simp
 obj := fun i h st b hb => by
  obtain ⟨⟨old,he⟩,hi⟩ := st
  rcases List.mem_cons.mp hb with z | hb
  ·rw [z]; exact ⟨_,he,fun v z => by
    have z' : Data.fields _ = Data.cell v := z
    cases z'⟩
  ·rw [List.mem_singleton.mp hb]; exact S.ito hi
 keep := fun i h h' st kk => by
  obtain ⟨⟨old,he⟩,hi⟩ := st
  exact ⟨⟨old,kk e (by simp) _ he⟩,S.itk hi fun o q => kk it (by simp) o q⟩
 item := by
  intro X hP hw hK hc i pins s σ H E I hf st hg
  subst hP hw
  obtain ⟨xs,x,hq,hx⟩ := hg
  obtain ⟨its,rv,is,hz⟩ := S.get hK I hq
  obtain ⟨u,hu,ru⟩ := rv.get hx
  have W := WalksT.enumerateD (S.draws X.A.in1 (I.ok.hd hc) it a hai its.toArray) e hei (by simp [hei,Ne.symm hae]) (by simp)
  have hi : i < its.toArray.size := by have := (List.getElem?_eq_some_iff.mp hu).1; simpa using this
  refine W.item i s _ _ hi ⟨st.1,st.2,is⟩ fun T vals h1 tk hp hT htup hmid hk => ⟨_,rfl,?_⟩
  obtain ⟨t,y,hy,hv⟩ := hp
  have ey : y = u := by
   have q : its.toArray[i]? = some u := by simpa using hu
   rw [q] at hy; exact (Option.some.inj hy).symm
  subst ey hv
  refine W.go es k pos i T { s with heap := h1,toks := tk } _ _ hmid fun h2 st2 hk2 => ?_
  have kk : ∀ b o,b ∉ [e,it] -> s.heap.get? b = some o -> h2.get? b = some o := fun b o hb q => hk2 b o hb (hk b o hb q)
  have htup2 : IsTup h2 T [Value.int i t,y].toArray := by
   obtain ⟨o,q,r⟩ := htup
   exact ⟨o,hk2 T o (W.apart i T h1 hmid) q,r⟩
  exact ⟨.ref T,upd H T (.tup [.int i,x]),I.yielded (tk := tk) (fun b hb => hf b hb) kk hT htup2 (.cons ⟨t,rfl⟩ (.cons ru .nil)) (by show 2 <= sizeLine; decide),rfl,
   ⟨T, rfl, I.hok.fresh hT, fun ys z hy hz => by
    rw [S.inj hK I hy hq,hx] at hz; cases hz; rfl⟩,⟨st2.1,st2.2.1⟩,fun b hb => by
    have hbt : b < s.heap.objs.size := by
     rcases List.mem_cons.mp hb with z | hb
     ·rw [z]; obtain ⟨old,q⟩ := st.1; exact Heap.lt_size q
     ·rw [List.mem_singleton.mp hb]; obtain ⟨o,q,_⟩ := S.ito st.2; exact Heap.lt_size q
    rw [Au (Nat.ne_of_lt (Nat.lt_of_lt_of_le hbt hT))]; exact (hf b hb).1⟩
 done := by
  intro X hP hw hK hc i pins s σ H E I hf st hg
  subst hP hw
  obtain ⟨xs,hq,hx⟩ := hg
  obtain ⟨its,rv,is,hz⟩ := S.get hK I hq
  have W := WalksT.enumerateD (S.draws X.A.in1 (I.ok.hd hc) it a hai its.toArray) e hei (by simp [hei,Ne.symm hae]) (by simp)
  have hn : its.toArray.size = i := by have := rv.length; simp; omega
  rw [hn] at W
  exact W.done s _ _ ⟨st.1,st.2,is⟩ fun h' tk hk => ⟨rfl,I.ended (tk := tk) (fun b hb => hf b hb) hk⟩
 self := fun _ _ _ _ _ st h => by
  obtain ⟨⟨old,he⟩,_⟩ := st
  exact wpAny_pyIter_enum he h
theorem MY (l : Addr) (items : Array Value) :
    Meets (Builtin.«enumerate.__new__» ⟨[.type "enumerate",.ref l],[]⟩) (fun _ R s => s.heap.IsTuple l items /\ R (.ok (.ret (.ref (s.heap.push { cls := .type "tuple_iterator",data := .fields #[.ref l,.int 0 0] }).objs.size)))
        { s with heap := (s.heap.push { cls := .type "tuple_iterator",data := .fields #[.ref l,.int 0 0] }).push { cls := .type "enumerate",data := .fields #[.none,.bool false,.ref s.heap.objs.size,rawInt 0,.none,.none] } }) :=
  .of_wp fun prog w A R s h => by
    obtain ⟨hp,g,d,tk,os⟩ := s; obtain ⟨hl0,h⟩ := h
    obtain ⟨⟨c0,dct,dt,sl⟩,hl,hc0,n,hd0⟩ := id hl0; replace hc0 : c0 = .type "tuple" := hc0; replace hd0 : dt = .seq items n := hd0; subst hc0 hd0
    have hsub := sub_enumerate; have hL : Heap.IsTuple (Shared.heap ⟨hp,g,d,tk,os⟩) l items := ⟨_,hl,rfl,n,rfl⟩
    wp_walk using wpAny_loadPart' hl
    refine wpAny_stack_any fun st => wpAny_pure ?_; split
    . rename_i c _ _ _ _ _; cases (c == Value.type "enumerate")
      . wp_walk using wpAny_loadPart' hl,wpAny_pyIter_tuple hL; exact ⟨_,rfl,h⟩
      . wp_walk using wpAny_loadPart' hl,wpAny_pyIter_tuple hL; exact ⟨_,rfl,h⟩
    . wp_walk using wpAny_loadPart' hl,wpAny_pyIter_tuple hL; exact ⟨_,rfl,h⟩
theorem MZ {prog : Program} {w : World} {A : Around} {E : Value -> Shared -> Prop} {s : Shared} {l : Addr} {items : Array Value} {Q : Value -> Shared -> Prop} (hL : s.heap.IsTuple l items)
  (h : ∀ h',IsEnum h' (s.heap.objs.size + 1) s.heap.objs.size 0 .none -> h'.IsTupleIter s.heap.objs.size l 0 -> h'.objs.size = s.heap.objs.size + 2 -> (∀ b o,s.heap.get? b = some o -> h'.get? b = some o) -> Q (.ref (s.heap.objs.size + 1)) { s with heap := h' }) :
  wpAny (model prog w) A (call (.type "enumerate") [.ref l]) Q E s := by
 refine callType_new F.called_enumerate (by decide) (F.typeCall_enumerate_1 _) (F.newCall_enumerate_1 _) (fun obj => F.args_object_init_2 obj _) F.entry_enumerate_new (MY l items) ⟨hL,?_⟩
 have hz : (s.heap.push { cls := .type "tuple_iterator",data := .fields #[.ref l,.int 0 0] }).objs.size = s.heap.objs.size + 1 := Heap.size_push ..
 show _ /\ _; rw [hz]
 have he : IsEnum ((s.heap.push { cls := .type "tuple_iterator",data := .fields #[.ref l,.int 0 0] }).push { cls := .type "enumerate",data := .fields #[.none,.bool false,.ref s.heap.objs.size,rawInt 0,.none,.none] }) (s.heap.objs.size + 1) s.heap.objs.size 0 .none := by
  have := Heap.get?_push_size (s.heap.push { cls := .type "tuple_iterator",data := .fields #[.ref l,.int 0 0] }) (o := { cls := .type "enumerate",data := .fields #[.none,.bool false,.ref s.heap.objs.size,rawInt 0,.none,.none] }) rfl
  rw [hz] at this; exact this
 exact ⟨⟨_,he,rfl⟩,h _ he ⟨_,Heap.get?_push_of_some _ (Heap.get?_push_size _ rfl),rfl,rfl⟩ (by rw [Heap.size_push,hz]) fun b o x => Heap.get?_push_of_some _ (Heap.get?_push_of_some _ x)⟩
def Ju {P : Program} {w : World} {K : PySem.W.Frag} (S : A5 P w K) (ta : TA) : TI := fun σ H R => ta σ H fun vs H1 => ∃ a,vs = [.ref a] /\ (∃ xs,S.Sq H1 a xs) /\ R (D0 S a) H1
theorem M0 {es : List Expr} {k : Nat} {p pos pos' : Pos} {a : Expr} {ta : TA} (hg : Gl X "enumerate") (hm : X.mg "enumerate" = none) (ha : PA X [a] ta) (hs : starEach [a] X.env = [(false,eval a X.env)] := by rfl) :
  PI X (.Tuple es k pos') (.Call (.Name "enumerate" p) [a] [] pos) (Ju (BP X.prog X.w X.K) ta) := by
 intro pins s σ H R I h
 refine Call_ (Cb I hg hm boot_enumerate (PyProof.Rows.callWith_type1 (An (ha pos pins s σ H _ I h) fun us s1 ⟨vs,H1,I1,r1,q1⟩ => ?_) hs rfl))
 obtain ⟨l,e,⟨xs,hq⟩,q⟩ := q1
 subst e
 obtain ⟨u,rfl,ru⟩ := r1.one
 cases ru
 obtain ⟨its,rv,is,hz⟩ := I1.tuple hq
 obtain ⟨ol,hol,hol2⟩ := id is
 have hlt := Heap.lt_size hol
 refine MZ (items := its.toArray) ⟨ol,hol,hol2⟩ fun h' hE hI hsz hk => ?_
 have I2 : Ae X pins σ H1 { s1 with heap := h' } := I1.kept (t' := s1.toks) hk
 refine wpAny_pyIter_enum hE ⟨s1.heap.objs.size + 1,[s1.heap.objs.size + 1,s1.heap.objs.size],_,_,H1,rfl,I2,MX (BP X.prog X.w X.K) l (s1.heap.objs.size + 1) s1.heap.objs.size (Nat.succ_ne_self _) (Nat.ne_of_lt hlt) (Nat.ne_of_lt (Nat.lt_succ_of_lt hlt)),⟨⟨_,hE⟩,hI⟩,fun b hb => ?_,q⟩
 rcases List.mem_cons.mp hb with z | hb
 ·rw [z]; exact I1.fpOk (Nat.le_succ _) (I1.hok.fresh (Nat.le_succ _))
 ·rw [List.mem_singleton.mp hb]; exact I1.fpOk (Nat.le_refl _) (I1.hok.fresh (Nat.le_refl _))
end L2
end
section
namespace L2
open PySem PySem.Spec PyProof.Rows
variable {k : Nat} {a1 a2 : Value} {X : Cx} {p pos' : Pos} {e1 e2 : Expr} {ta : TA}
open AutoSeq1 (wpAny_loadPart')
def Dr {P : Program} {w : World} {K : PySem.W.Frag} (S : A5 P w K) (it l : Addr) (xs : Array Value) (k : Nat) (h : Heap) : Prop := S.It h it l k /\ S.Is h l xs
theorem Dr.ext {P : Program} {w : World} {K : PySem.W.Frag} {S : A5 P w K} {it l b : Addr} {xs : Array Value} {h h' : Heap} (d : Dr S it l xs k h) (e : Heap.ExtBut b h h') (h1 : it ≠ b) (h2 : l ≠ b) : Dr S it l xs k h' :=
 ⟨S.itk d.1 fun o q => e it o h1 q,S.isk d.2 fun o q => e l o h2 q⟩
abbrev B6 (h : Heap) (z TI TO : Addr) (f0 f1 : Value) : Prop := h.get? z = some { cls := .type "zip",dict := none,data := .fields #[f0,f1,.bool false,.ref TI,.ref TO],slots := #[] }
def D3 (h : Heap) (z TI TO : Addr) : Prop := ∃ f0 f1,B6 h z TI TO f0 f1 /\ (f0 = .none \/ ∃ T : Addr,f0 = rawInt T) /\ (f1 = .bool false \/ f1 = .bool true)
theorem M1 {M : Model} {A : Around} {E : Value -> Shared -> Prop} {s : Shared} {a : Addr} {Q : Option Obj -> Shared -> Prop} (h : Q (s.heap.get? a) s) : wpAny M A (loadIfAlive a) Q E s := fun _ _ _ => h
theorem Hu {P : Program} {w : World} {A : Around} {E : Value -> Shared -> Prop} {s : Shared} {z TI TO : Addr} {Q : Bool -> Shared -> Prop} (hz : D3 s.heap z TI TO) (h1 : ∀ f0 f1,B6 s.heap z TI TO f0 f1 -> Q true s)
  (h2 : ∀ g0,∀ T : Addr,∀ f1 f2,B6 s.heap z TI TO (rawInt T) f1 -> B6 g0 z TI TO (rawInt T) f2 -> (f2 = .bool false \/ f2 = .bool true) -> Heap.SameBut z s.heap g0 -> Q false { s with heap := g0 }) :
  wpAny (model P w) A (Builtin.SmallTypes.ownedTupleIsFree (.ref z)) Q E s := by
 obtain ⟨f0,f1,hz,hf0,hf1⟩ := hz
 unfold Builtin.SmallTypes.ownedTupleIsFree
 refine wpAny_bind (wpAny_field hz rfl (x := f0) rfl ?_)
 rcases hf0 with rfl | ⟨T,rfl⟩
 ·exact wpAny_pure (h1 _ _ hz)
 ·show wpAny _ _ (loadIfAlive T >>= _) _ _ _
  refine wpAny_bind (M1 ?_)
  cases hTa : s.heap.get? T with
  | none =>
   simp only [Option.isNone_none,if_true]
   exact wpAny_pure (h1 _ _ hz)
  | some oT =>
   simp only [Option.isNone_some,Bool.false_eq_true,if_false]
   show wpAny _ _ (field (.ref z) 1 >>= _) _ _ _
   refine wpAny_bind (wpAny_field hz rfl (x := f1) rfl ?_)
   rcases hf1 with rfl | rfl
   ·exact wpAny_bind (wpAny_setField_rec hz (by simp) fun g0 hz0 hs0 => wpAny_pure (h2 g0 T _ _ hz hz0 (.inr rfl) hs0))
   ·exact wpAny_bind (wpAny_pure (wpAny_pure (h2 s.heap T _ _ hz hz (.inr rfl) ⟨rfl,fun _ _ => rfl⟩)))
structure D5 (z TI TO i1 i2 l1 l2 : Addr) : Prop where
 TI_z : TI ≠ z
 TO_z : TO ≠ z
 TO_TI : TO ≠ TI
 i1_z : i1 ≠ z
 i1_TI : i1 ≠ TI
 i1_TO : i1 ≠ TO
 i2_z : i2 ≠ z
 i2_TI : i2 ≠ TI
 i2_TO : i2 ≠ TO
 i2_i1 : i2 ≠ i1
 l1_z : l1 ≠ z
 l1_TO : l1 ≠ TO
 l1_i1 : l1 ≠ i1
 l1_i2 : l1 ≠ i2
 l2_z : l2 ≠ z
 l2_TO : l2 ≠ TO
 l2_i1 : l2 ≠ i1
 l2_i2 : l2 ≠ i2
abbrev Ba (h : Heap) (T : Addr) (a1 a2 : Value) : Prop := h.get? T = some { cls := .type "tuple",data := .seq #[a1,a2] }
theorem Hv {prog : Program} {w : World} {A : Around} {E : Value -> Shared -> Prop} {s : Shared} {T : Addr} {x : Value} {Q : Unit -> Shared -> Prop} (hT : Ba s.heap T a1 a2)
  (h : ∀ h',h'.get? T = some { cls := .type "tuple",data := .seq ((#[a1,a2] : Array Value).setIfInBounds k x) } -> Heap.SameBut T s.heap h' -> Q () { s with heap := h' }) :
  wpAny (model prog w) A (updateSeq T (·.setIfInBounds k x)) Q E s := by
 have got := Heap.get?_update_self (Obj.mapSeq fun y => y.setIfInBounds k x) hT rfl
 exact wpAny_updateSeq hT rfl (h _ (got.trans (by simp [Obj.mapSeq])) (Heap.SameBut.update ..))
section
variable {P : Program} {w : World} {K : PySem.W.Frag} {A : Around} {E : Value -> Shared -> Prop} {s : Shared} (S1 S2 : A5 P w K)
theorem Jv {z TI TO i1 i2 l1 l2 : Addr} {k : Nat} {xs1 xs2 : Array Value} {x1 x2 a1 a2 : Value} {Q : Value -> Shared -> Prop} (hh : A.handled = none) (D : D5 z TI TO i1 i2 l1 l2) (hz : D3 s.heap z TI TO) (hTI : Ba s.heap TI (.ref i1) (.ref i2)) (hTO : Ba s.heap TO a1 a2) (h1 : Dr S1 i1 l1 xs1 k s.heap) (h2 : Dr S2 i2 l2 xs2 k s.heap) (hx1 : xs1[k]? = some x1) (hx2 : xs2[k]? = some x2)
  (hQ : ∀ h' tk, D3 h' z TI TO -> (IsZip h' z TI TO (rawInt s.heap.objs.size) \/ IsZip s.heap z TI TO .none -> IsZip h' z TI TO (rawInt s.heap.objs.size)) -> (∃ a1 a2, Ba h' TO a1 a2) -> Dr S1 i1 l1 xs1 (k + 1) h' -> Dr S2 i2 l2 xs2 (k + 1) h' -> Ba h' s.heap.objs.size x1 x2 -> h'.objs.size = s.heap.objs.size + 1 ->
   (∀ c o,c ≠ z -> c ≠ TO -> c ≠ i1 -> c ≠ i2 -> s.heap.get? c = some o -> h'.get? c = some o) -> Q (.ref s.heap.objs.size) { s with heap := h',toks := tk }) :
  wpAny (model P w) A (Builtin.«zip.__next__» ⟨[.ref z],[]⟩) (fun fin s' => ∃ v,fin = .done (.ret v) /\ Q v s') E s := by
 have hl1 : k < xs1.size := (Array.getElem?_eq_some_iff.mp hx1).1
 have hl2 : k < xs2.size := (Array.getElem?_eq_some_iff.mp hx2).1
 have D1 := fun (A : Around) (hh : A.handled = none) => S1.draws A hh i1 l1 D.l1_i1 xs1
 have D2 := fun (A : Around) (hh : A.handled = none) => S2.draws A hh i2 l2 D.l2_i2 xs2
 obtain ⟨f0',f1',hz',hf0',hf1'⟩ := id hz
 show wpAny _ _ (field (.ref z) 2 >>= _) _ _ _; refine wpAny_bind (wpAny_field hz' rfl (x := .bool false) rfl ?_)
 show wpAny _ _ (field (.ref z) 3 >>= _) _ _ _; refine wpAny_bind (wpAny_field hz' rfl (x := .ref TI) rfl ?_)
 refine wpAny_bind (wpAny_seqItems hTI rfl ?_); show wpAny _ _ (Builtin.SmallTypes.ownedTupleIsFree (.ref z) >>= _) _ _ _
 refine wpAny_bind (Hu hz (fun f0 f1 hz => ?_) fun g0 T f1 f2 hzs hz0 hf2 hs0 => ?_)
 ·simp only [if_true]
  refine wpAny_bind (wpAny_rule ?_); refine wpAny_bind (wpAny_field hz rfl (x := .ref TO) rfl ?_)
  refine wpAny_bind (wpAny_setField_rec hz (by simp) fun g0 hz0 hs0 => ?_); replace hz0 : B6 g0 z TI TO .ellipsis f1 := hz0
  refine wpAny_bind ?_; simp only [List.zipIdx_cons,List.zipIdx_nil,List.forIn_cons,List.forIn_nil]
  refine wpAny_bind (wpAny_bind (wpAny_onRaise ?_)); show wpAny _ _ (Builtin.SmallTypes.nextOf (.ref i1) >>= _) _ _ _
  refine wpAny_bind ((D1 _ hh).item k _ _ _ hl1 (Dr.ext h1 hs0.extBut D.i1_z D.l1_z) fun y1 g1 tk1 hy1 hd1 hs1 => wpAny_pure ?_)
  have ex1 : y1 = x1 := by rw [hx1] at hy1; exact (Option.some.inj hy1).symm
  subst ex1
  have hd1' : Dr S1 i1 l1 xs1 (k + 1) g1 := hd1
  have hT1 : Ba g1 TO a1 a2 := (hs1.extBut _ _ D.i1_TO.symm (hs0.extBut _ _ D.TO_z hTO))
  refine wpAny_bind (wpAny_seqItems hT1 rfl ?_); refine wpAny_bind (Hv hT1 fun g2 hU1 hs2 => ?_)
  replace hU1 : Ba g2 TO y1 a2 := hU1
  refine wpAny_bind (wpAny_letGo (wpAny_pure ?_))
  refine wpAny_bind (wpAny_bind (wpAny_onRaise ?_)); show wpAny _ _ (Builtin.SmallTypes.nextOf (.ref i2) >>= _) _ _ _
  refine wpAny_bind ((D2 _ hh).item k _ _ _ hl2 (Dr.ext (Dr.ext (Dr.ext h2 hs0.extBut D.i2_z D.l2_z) hs1.extBut D.i2_i1 D.l2_i1) hs2.extBut D.i2_TO D.l2_TO) fun y2 g3 tk2 hy2 hd2 hs3 => wpAny_pure ?_)
  have ex2 : y2 = x2 := by rw [hx2] at hy2; exact (Option.some.inj hy2).symm
  subst ex2
  have hd2' : Dr S2 i2 l2 xs2 (k + 1) g3 := hd2
  have hT2 : Ba g3 TO y1 a2 := (hs3.extBut _ _ D.i2_TO.symm hU1)
  refine wpAny_bind (wpAny_seqItems hT2 rfl ?_); refine wpAny_bind (Hv hT2 fun g4 hU2 hs4 => ?_)
  replace hU2 : Ba g4 TO y1 y2 := hU2
  refine wpAny_bind (wpAny_letGo (wpAny_pure (wpAny_pure ?_)))
  refine wpAny_bind (wpAny_seqItems hU2 rfl ?_); refine wpAny_bind (wpAny_newTuple ?_)
  have hsz : g4.objs.size = s.heap.objs.size := by rw [hs4.1,hs3.1,hs2.1,hs1.1,hs0.1]
  have hz5 : B6 g4 z TI TO .ellipsis f1 := (hs4.extBut _ _ D.TO_z.symm (hs3.extBut _ _ D.i2_z.symm (hs2.extBut _ _ D.TO_z.symm (hs1.extBut _ _ D.i1_z.symm hz0))))
  have hk5 : ∀ c o,c ≠ z -> c ≠ TO -> c ≠ i1 -> c ≠ i2 -> s.heap.get? c = some o -> g4.get? c = some o := fun c o cz cTO ci1 ci2 e => (hs4.extBut _ _ cTO (hs3.extBut _ _ ci2 (hs2.extBut _ _ cTO (hs1.extBut _ _ ci1 (hs0.extBut _ _ cz e)))))
  have he1 : Dr S1 i1 l1 xs1 (k + 1) g4 := (Dr.ext (Dr.ext (Dr.ext hd1' hs2.extBut D.i1_TO D.l1_TO) hs3.extBut D.i2_i1.symm D.l1_i2) hs4.extBut D.i1_TO D.l1_TO)
  have he2 : Dr S2 i2 l2 xs2 (k + 1) g4 := (Dr.ext hd2' hs4.extBut D.i2_TO D.l2_TO)
  have hzlt : z < g4.objs.size := Heap.lt_size hz5
  show wpAny _ _ (Builtin.SmallTypes.ownedTupleHandOut (.ref z) (.ref g4.objs.size) >>= _) _ _ _; refine wpAny_bind ?_; unfold Builtin.SmallTypes.ownedTupleHandOut
  have hz6 : B6 (g4.push { cls := .type "tuple",data := .seq #[y1,y2] }) z TI TO .ellipsis f1 := Heap.get?_push_of_some _ hz5
  refine wpAny_bind (wpAny_setField_rec hz6 (by simp) fun ga hza hsa => ?_); replace hza : B6 ga z TI TO (rawInt g4.objs.size) f1 := hza
  refine wpAny_setField_rec hza (by simp) fun gb hzb hsb => ?_; replace hzb : B6 gb z TI TO (rawInt g4.objs.size) (.bool false) := hzb
  have up : ∀ c o,c ≠ z -> g4.get? c = some o -> gb.get? c = some o := fun c o c1 e => hsb.extBut _ _ c1 (hsa.extBut _ _ c1 (Heap.get?_push_of_some _ e))
  have hTb : Ba gb g4.objs.size y1 y2 := hsb.extBut _ _ (Nat.ne_of_gt hzlt) (hsa.extBut _ _ (Nat.ne_of_gt hzlt) (Heap.get?_push_size _ rfl))
  have hsb8 : gb.objs.size = g4.objs.size + 1 := by rw [hsb.1,hsa.1,Heap.size_push]
  have upE : Heap.ExtBut z g4 gb := fun c o c1 e => up c o c1 e
  rw [hsz] at hzb hTb hsb8
  refine wpAny_pure ⟨_,rfl,?_⟩; show Q (.ref g4.objs.size) _; rw [hsz]
  exact hQ gb _ ⟨_,_,hzb,.inr ⟨_,rfl⟩,.inl rfl⟩ (fun _ => hzb) ⟨_,_,up _ _ D.TO_z hU2⟩ (he1.ext upE D.i1_z D.l1_z) (he2.ext upE D.i2_z D.l2_z) hTb hsb8 fun c o cz cTO ci1 ci2 e => up c o cz (hk5 c o cz cTO ci1 ci2 e)
 ·simp only [Bool.false_eq_true,if_false]
  refine wpAny_bind ?_; simp only [<- Array.forIn_toList,List.forIn_cons,List.forIn_nil]
  refine wpAny_bind (wpAny_bind (wpAny_holding ?_)); show wpAny _ _ (Builtin.SmallTypes.nextOf (.ref i1) >>= _) _ _ _
  refine wpAny_bind ((D1 _ hh).item k _ _ _ hl1 (Dr.ext h1 hs0.extBut D.i1_z D.l1_z) fun y1 g1 tk1 hy1 hd1 hs1 => wpAny_pure ?_)
  have ex1 : y1 = x1 := by rw [hx1] at hy1; exact (Option.some.inj hy1).symm
  subst ex1
  have hd1' : Dr S1 i1 l1 xs1 (k + 1) g1 := hd1
  refine wpAny_pure ?_
  refine wpAny_bind (wpAny_bind (wpAny_holding ?_)); show wpAny _ _ (Builtin.SmallTypes.nextOf (.ref i2) >>= _) _ _ _
  refine wpAny_bind ((D2 _ hh).item k _ _ _ hl2 (Dr.ext (Dr.ext h2 hs0.extBut D.i2_z D.l2_z) hs1.extBut D.i2_i1 D.l2_i1) fun y2 g2 tk2 hy2 hd2 hs2 => wpAny_pure ?_)
  have ex2 : y2 = x2 := by rw [hx2] at hy2; exact (Option.some.inj hy2).symm
  subst ex2
  have hd2' : Dr S2 i2 l2 xs2 (k + 1) g2 := hd2
  refine wpAny_pure (wpAny_pure ?_)
  show wpAny _ _ (newTuple [y1,y2] >>= _) _ _ _; refine wpAny_bind (wpAny_newTuple ?_)
  have hsz : g2.objs.size = s.heap.objs.size := by rw [hs2.1,hs1.1,hs0.1]
  have hz5 : B6 g2 z TI TO (rawInt T) f2 := (hs2.extBut _ _ D.i2_z.symm (hs1.extBut _ _ D.i1_z.symm hz0))
  have hT5 : Ba g2 TO a1 a2 := (hs2.extBut _ _ D.i2_TO.symm (hs1.extBut _ _ D.i1_TO.symm (hs0.extBut _ _ D.TO_z hTO)))
  have he1 : Dr S1 i1 l1 xs1 (k + 1) g2 := (Dr.ext hd1' hs2.extBut D.i2_i1.symm D.l1_i2)
  have he2 : Dr S2 i2 l2 xs2 (k + 1) g2 := hd2'
  have hTb : Ba (g2.push { cls := .type "tuple",data := .seq #[y1,y2] }) g2.objs.size y1 y2 := Heap.get?_push_size _ rfl
  have hb8 : (g2.push { cls := .type "tuple",data := .seq #[y1,y2] }).objs.size = g2.objs.size + 1 := Heap.size_push ..
  refine wpAny_pure ⟨_,rfl,?_⟩; show Q (.ref g2.objs.size) _
  have res := hQ (g2.push { cls := .type "tuple",data := .seq #[y1,y2] }) tk2 ⟨_,_,Heap.get?_push_of_some _ hz5,.inr ⟨_,rfl⟩,hf2⟩ (fun c => c.elim id fun c => absurd (congrArg (fun o : Obj => o.data) (Option.some.inj (hzs.symm.trans c))) (by simp [rawInt])) ⟨_,_,Heap.get?_push_of_some _ hT5⟩ ⟨S1.itk he1.1 fun o q => Heap.get?_push_of_some _ q,S1.isk he1.2 fun o q => Heap.get?_push_of_some _ q⟩ ⟨S2.itk he2.1 fun o q => Heap.get?_push_of_some _ q,S2.isk he2.2 fun o q => Heap.get?_push_of_some _ q⟩ (by rw [<- hsz]; exact hTb) (by rw [hb8,hsz]) fun c o cz cTO ci1 ci2 e => Heap.get?_push_of_some _ (hs2.extBut _ _ ci2 (hs1.extBut _ _ ci1 (hs0.extBut _ _ cz e)))
  rw [hsz]; exact res
theorem M2 {z TI TO i1 i2 l1 l2 : Addr} {xs1 xs2 : Array Value} {Q : Fin -> Shared -> Prop} (hh : A.handled = none) (D : D5 z TI TO i1 i2 l1 l2) (hz : D3 s.heap z TI TO) (hTI : Ba s.heap TI (.ref i1) (.ref i2)) (hTO : Ba s.heap TO a1 a2) (h1 : Dr S1 i1 l1 xs1 k s.heap) (h2 : Dr S2 i2 l2 xs2 k s.heap)  (hend : k = xs1.size)
  (hE : ∀ h' tk e,(∀ c o,c ≠ z -> c ≠ TO -> c ≠ i1 -> c ≠ i2 -> s.heap.get? c = some o -> h'.get? c = some o) -> (∃ o,h'.get? e = some o /\ o.cls = .type "StopIteration") -> E (.ref e) { s with heap := h',toks := tk }) :
  wpAny (model P w) A (Builtin.«zip.__next__» ⟨[.ref z],[]⟩) Q E s := by
 have D1 := fun (A : Around) (hh : A.handled = none) => S1.draws A hh i1 l1 D.l1_i1 xs1
 have D2 := fun (A : Around) (hh : A.handled = none) => S2.draws A hh i2 l2 D.l2_i2 xs2
 obtain ⟨f0',f1',hz',hf0',hf1'⟩ := id hz
 show wpAny _ _ (field (.ref z) 2 >>= _) _ _ _; refine wpAny_bind (wpAny_field hz' rfl (x := .bool false) rfl ?_)
 show wpAny _ _ (field (.ref z) 3 >>= _) _ _ _; refine wpAny_bind (wpAny_field hz' rfl (x := .ref TI) rfl ?_)
 refine wpAny_bind (wpAny_seqItems hTI rfl ?_); show wpAny _ _ (Builtin.SmallTypes.ownedTupleIsFree (.ref z) >>= _) _ _ _
 refine wpAny_bind (Hu hz (fun f0 f1 hz => ?_) fun g0 T f1 f2 hzs hz0 hf2 hs0 => ?_)
 ·simp only [if_true]
  refine wpAny_bind (wpAny_rule ?_); refine wpAny_bind (wpAny_field hz rfl (x := .ref TO) rfl ?_)
  refine wpAny_bind (wpAny_setField_rec hz (by simp) fun g0 hz0 hs0 => ?_); replace hz0 : B6 g0 z TI TO .ellipsis f1 := hz0
  refine wpAny_bind ?_; simp only [List.zipIdx_cons,List.zipIdx_nil,List.forIn_cons,List.forIn_nil]
  refine wpAny_bind (wpAny_bind (wpAny_onRaise ?_)); show wpAny _ _ (Builtin.SmallTypes.nextOf (.ref i1) >>= _) _ _ _
  have hcur := (Dr.ext h1 hs0.extBut D.i1_z D.l1_z)
  subst hend
  refine wpAny_bind ((D1 _ hh).done _ _ _ hcur fun ge e hse he => ?_)
  obtain ⟨oe,hoe,hce⟩ := he
  have hze : B6 ge z TI TO .ellipsis f1 := hse _ _ D.i1_z.symm hz0
  have hez : e ≠ z := fun x => by subst x; rw [hze] at hoe; cases hoe; simp at hce
  exact wpAny_setField_rec hze (by simp) fun gf _ hsf => hE gf _ e (fun c o cz cTO ci1 ci2 x => hsf.extBut _ _ cz (hse _ _ ci1 (hs0.extBut _ _ cz x))) ⟨oe,hsf.extBut _ _ hez hoe,hce⟩
 ·simp only [Bool.false_eq_true,if_false]
  refine wpAny_bind ?_; simp only [<- Array.forIn_toList,List.forIn_cons,List.forIn_nil]
  refine wpAny_bind (wpAny_bind (wpAny_holding ?_)); show wpAny _ _ (Builtin.SmallTypes.nextOf (.ref i1) >>= _) _ _ _
  have hcur := (Dr.ext h1 hs0.extBut D.i1_z D.l1_z)
  subst hend
  refine wpAny_bind ((D1 _ hh).done _ _ _ hcur fun ge e hse he => ?_)
  obtain ⟨oe,hoe,hce⟩ := he
  exact hE ge _ e (fun c o cz cTO ci1 ci2 x => hse _ _ ci1 (hs0.extBut _ _ cz x)) ⟨oe,hoe,hce⟩
end
abbrev FJ {P : Program} {w : World} {K : PySem.W.Frag} (S1 S2 : A5 P w K) (h : Heap) (l1 l2 : Addr) : Heap := (h).push (S1.obj l1)
abbrev FK {P : Program} {w : World} {K : PySem.W.Frag} (S1 S2 : A5 P w K) (h : Heap) (l1 l2 : Addr) : Heap := (FJ S1 S2 h l1 l2).push (S2.obj l2)
abbrev FL {P : Program} {w : World} {K : PySem.W.Frag} (S1 S2 : A5 P w K) (h : Heap) (l1 l2 : Addr) : Heap := (FK S1 S2 h l1 l2).push { cls := .type "tuple",data := .seq #[.ref h.objs.size,.ref (FJ S1 S2 h l1 l2).objs.size] }
abbrev FM {P : Program} {w : World} {K : PySem.W.Frag} (S1 S2 : A5 P w K) (h : Heap) (l1 l2 : Addr) : Heap := (FL S1 S2 h l1 l2).push { cls := .type "tuple",data := .seq #[.none,.none] }
abbrev CW {P : Program} {w : World} {K : PySem.W.Frag} (S1 S2 : A5 P w K) (h : Heap) (l1 l2 : Addr) : Heap := (FM S1 S2 h l1 l2).push { cls := .type "zip",data := .fields #[.none,.bool false,.bool false,.ref (FK S1 S2 h l1 l2).objs.size,.ref (FL S1 S2 h l1 l2).objs.size] }
def D6 {P : Program} {w : World} {K : PySem.W.Frag} (S1 S2 : A5 P w K) : Prop := ∀ (l1 l2 : Addr) (xs1 xs2 : Array Value),
  Meets (Builtin.«zip.__new__» ⟨[.type "zip",.ref l1,.ref l2],[]⟩) (fun _ R s => S1.Is s.heap l1 xs1 /\ S2.Is s.heap l2 xs2 /\ R (.ok (.ret (.ref (FM S1 S2 s.heap l1 l2).objs.size))) { s with heap := CW S1 S2 s.heap l1 l2 })
theorem Jw {X : Cx} {p pos : Pos} {e1 e2 : Expr} {ta : TA} (S1 S2 : A5 X.prog X.w X.K) (zn : D6 S1 S2) (hg : Gl X "zip") (hm : X.mg "zip" = none) (ha : PA X [e1,e2] ta) (hs1 : starEach [e1,e2] X.env = [(false,eval e1 X.env),(false,eval e2 X.env)]) (hs2 : starEach [e2] X.env = [(false,eval e2 X.env)])
  {pins : List (Addr × Obj)} {s : Shared} {σ : St} {H : Hp} {R : Addr -> Addr -> Hp -> Prop} (I : Ae X pins σ H s) (h : ta σ H fun vs H1 => ∃ l1 l2,vs = [.ref l1,.ref l2] /\ (∃ xs,S1.Sq H1 l1 xs) /\ (∃ xs,S2.Sq H1 l2 xs) /\ R l1 l2 H1) :
  wpAny (model X.prog X.w) X.A (eval (.Call (.Name "zip" p) [e1,e2] [] pos) X.env) (fun v s1 => ∃ l1 l2 H1,∃ m : Nat,v = .ref (m + 4) /\ R l1 l2 H1 /\ Ae X pins σ H1 s1 /\ IsZip s1.heap (m + 4) (m + 2) (m + 3) .none /\ Ba s1.heap (m + 2) (.ref m) (.ref (m + 1)) /\ Ba s1.heap (m + 3) .none .none /\ S1.It s1.heap m l1 0 /\ S2.It s1.heap (m + 1) l2 0 /\ l1 < m /\ l2 < m /\ (∀ b,m <= b -> Bq X pins H1 b) /\ s1.heap.objs.size = m + 5) X.xe s := by
 refine Call_ (Cb I hg hm boot_zip (PyProof.Rows.callWith_type1 (An (ha pos pins s σ H _ I h) fun us s1 ⟨vs,H1,I1,r1,q1⟩ => ?_) (by rw [hs1,hs2]) (by rw [hs2]; rfl)))
 obtain ⟨l1,l2,e,⟨xs1,hq1⟩,⟨xs2,hq2⟩,q⟩ := q1
 subst e
 rcases r1 with _ | ⟨ru1,r1⟩
 rcases r1 with _ | ⟨ru2,r1⟩
 cases r1
 cases ru1; cases ru2
 obtain ⟨its1,rv1,is1,_⟩ := S1.get rfl I1 hq1
 obtain ⟨its2,rv2,is2,_⟩ := S2.get rfl I1 hq2
 obtain ⟨o1,ho1⟩ := S1.iso is1
 have hl1 := Heap.lt_size ho1
 obtain ⟨o2,ho2⟩ := S2.iso is2
 have hl2 := Heap.lt_size ho2
 refine callType_new F.called_zip (by decide) (F.typeCall_zip_2 _ _) (F.newCall_zip_2 _ _) (fun obj => F.args_object_init_3 obj _ _) F.entry_zip_new (zn l1 l2 its1.toArray its2.toArray) ⟨is1,is2,?_⟩
 have z1 : (FJ S1 S2 s1.heap l1 l2).objs.size = s1.heap.objs.size + 1 := by rw [Heap.size_push]
 have z2 : (FK S1 S2 s1.heap l1 l2).objs.size = s1.heap.objs.size + 2 := by rw [Heap.size_push,z1]
 have z3 : (FL S1 S2 s1.heap l1 l2).objs.size = s1.heap.objs.size + 3 := by rw [Heap.size_push,z2]
 have z4 : (FM S1 S2 s1.heap l1 l2).objs.size = s1.heap.objs.size + 4 := by rw [Heap.size_push,z3]
 have zz : (CW S1 S2 s1.heap l1 l2).objs.size = s1.heap.objs.size + 5 := by rw [Heap.size_push,z4]
 have gz : (CW S1 S2 s1.heap l1 l2).get? (FM S1 S2 s1.heap l1 l2).objs.size = some _ := Heap.get?_push_size _ rfl
 have gO : (CW S1 S2 s1.heap l1 l2).get? (FL S1 S2 s1.heap l1 l2).objs.size = some _ := Heap.get?_push_of_some _ (Heap.get?_push_size _ rfl)
 have gI : (CW S1 S2 s1.heap l1 l2).get? (FK S1 S2 s1.heap l1 l2).objs.size = some _ := Heap.get?_push_of_some _ (Heap.get?_push_of_some _ (Heap.get?_push_size _ rfl))
 have g1 : S1.It (CW S1 S2 s1.heap l1 l2) s1.heap.objs.size l1 0 := S1.itk (S1.itn _ _) fun o q => Heap.get?_push_of_some _ (Heap.get?_push_of_some _ (Heap.get?_push_of_some _ (Heap.get?_push_of_some _ (q))))
 have g2 : S2.It (CW S1 S2 s1.heap l1 l2) (FJ S1 S2 s1.heap l1 l2).objs.size l2 0 := S2.itk (S2.itn _ _) fun o q => Heap.get?_push_of_some _ (Heap.get?_push_of_some _ (Heap.get?_push_of_some _ (q)))
 have kk : ∀ b o,s1.heap.get? b = some o -> (CW S1 S2 s1.heap l1 l2).get? b = some o := fun b o x => Heap.get?_push_of_some _ (Heap.get?_push_of_some _ (Heap.get?_push_of_some _ (Heap.get?_push_of_some _ (Heap.get?_push_of_some _ (x)))))
 show _ /\ _
 rw [z2,z3,z4] at gz; rw [z3] at gO; rw [z1,z2] at gI; rw [z4]
 rw [z1] at g2
 generalize CW S1 S2 s1.heap l1 l2 = hE at g1 g2 gI gO gz kk zz ⊢
 have I2 : Ae X pins σ H1 { s1 with heap := hE } := I1.kept (t' := s1.toks) kk
 exact ⟨⟨_,gz,rfl⟩,l1,l2,H1,s1.heap.objs.size,rfl,q,I2,gz,gI,gO,g1,g2,hl1,hl2,fun b hb => I1.fpOk hb (I1.hok.fresh hb),zz⟩
set_option maxHeartbeats 8000000 in
theorem M3 (P : Program) (w : World) (K : PySem.W.Frag) : D6 (BP P w K) (EJ P w K) := fun l1 l2 xs1 xs2 =>
 .of_wp fun prog w A R s h => by
  obtain ⟨hp,g,d,tk,os⟩ := s; obtain ⟨hl1,hl2,h⟩ := h; have hsub := sub_zip
  have hL1 : Heap.IsTuple (Shared.heap ⟨hp,g,d,tk,os⟩) l1 xs1 := hl1
  have hL2 : Heap.IsList (Shared.heap ⟨(hp).push { cls := .type "tuple_iterator",data := .fields #[.ref l1,.int 0 0] },g,d,tk,os⟩) l2 xs2 := Heap.IsList.push (hl2) _
  wp_walk using wpAny_pyIter_tuple hL1,wpAny_pyIter_list hL2
  exact ⟨_,rfl,h⟩
set_option maxHeartbeats 8000000 in
theorem Jx (P : Program) (w : World) (K : PySem.W.Frag) : D6 (BP P w K) (BP P w K) := fun l1 l2 xs1 xs2 =>
 .of_wp fun prog w A R s h => by
  obtain ⟨hp,g,d,tk,os⟩ := s; obtain ⟨hl1,hl2,h⟩ := h; have hsub := sub_zip
  have hL1 : Heap.IsTuple (Shared.heap ⟨hp,g,d,tk,os⟩) l1 xs1 := hl1
  have hL2 : Heap.IsTuple (Shared.heap ⟨(hp).push { cls := .type "tuple_iterator",data := .fields #[.ref l1,.int 0 0] },g,d,tk,os⟩) l2 xs2 := Heap.IsTuple.push (hl2) _
  wp_walk using wpAny_pyIter_tuple hL1,wpAny_pyIter_tuple hL2
  exact ⟨_,rfl,h⟩
theorem Jy {n l1 l2 : Nat} (h1 : l1 < n) (h2 : l2 < n) : D5 (n + 4) (n + 2) (n + 3) n (n + 1) l1 l2 := by constructor <;> intro z <;> (have z' := z; revert z'; intro z'; try (change (_ : Nat) = _ at z'); omega)
def DD {P : Program} {w : World} {K : PySem.W.Frag} (S1 S2 : A5 P w K) (a b : Addr) : It :=
 ⟨fun i H => ∃ xs ys x y,S1.Sq H a xs /\ S2.Sq H b ys /\ xs[i]? = some x /\ ys[i]? = some y,fun i H v H' => ∃ T,v = .ref T /\ H T = none /\ ∀ xs ys x y,S1.Sq H a xs -> S2.Sq H b ys -> xs[i]? = some x -> ys[i]? = some y -> H' = upd H T (.tup [x,y]),
  fun i H => ∃ xs ys,S1.Sq H a xs /\ S2.Sq H b ys /\ xs.length = i⟩
theorem M4 {P : Program} {w : World} {K : PySem.W.Frag} (S1 S2 : A5 P w K) {es : List Expr} {k : Nat} {pos : Pos} (z TI TO i1 i2 l1 l2 : Addr) (D : D5 z TI TO i1 i2 l1 l2) :
  Cr P w K (.Tuple es k pos) (DD S1 S2 l1 l2) [z,TI,TO,i1,i2] z (fun i h => IsZip h z TI TO .none /\ Ba h TI (.ref i1) (.ref i2) /\ (∃ a b,Ba h TO a b) /\ S1.It h i1 l1 i /\ S2.It h i2 l2 i) where
 mem := by simp
 obj := fun i h st b hb => by
  obtain ⟨hz,hTI,⟨a,b',hTO⟩,h1,h2⟩ := st
  simp only [List.mem_cons,List.not_mem_nil,or_false] at hb
  rcases hb with e | e | e | e | e <;> rw [e]
  ·exact ⟨_,hz,fun v q => by have q' : Data.fields _ = Data.cell v := q; cases q'⟩
  ·exact ⟨_,hTI,fun v q => by have q' : Data.seq _ _ = Data.cell v := q; cases q'⟩
  ·exact ⟨_,hTO,fun v q => by have q' : Data.seq _ _ = Data.cell v := q; cases q'⟩
  ·exact S1.ito h1
  ·exact S2.ito h2
 keep := fun i h h' st kk => by
  obtain ⟨hz,hTI,⟨a,b',hTO⟩,h1,h2⟩ := st
  exact ⟨kk z (by simp) _ hz,kk TI (by simp) _ hTI,⟨a,b',kk TO (by simp) _ hTO⟩,S1.itk h1 fun o q => kk i1 (by simp) o q,S2.itk h2 fun o q => kk i2 (by simp) o q⟩
 item := by
  intro X hP hw hK hc i pins s σ H E I hf st hg
  subst hP hw
  obtain ⟨xs,ys,x,y,hq1,hq2,hx,hy⟩ := hg
  obtain ⟨its1,rv1,is1,hz1⟩ := S1.get hK I hq1
  obtain ⟨its2,rv2,is2,hz2⟩ := S2.get hK I hq2
  obtain ⟨u1,hu1,ru1⟩ := rv1.get hx
  obtain ⟨u2,hu2,ru2⟩ := rv2.get hy
  obtain ⟨hz,hTI,⟨a,b',hTO⟩,h1,h2⟩ := st
  have hh := I.ok.hd hc
  have hT : s.TypeIs (.ref z) "zip" := ⟨_,hz,rfl⟩
  unfold pyNext
  refine wpAny_bind (wpAny_attempt (wpAny_callSpecial?_slot (name := Str.ofString "__next__") hT F.slot_zip_next (wpAny_call_entry F.slot_zip_next hT F.entry_zip_next
   (Jv S1 S2 (x1 := u1) (x2 := u2) hh D ⟨_,_,hz,.inl rfl,.inl rfl⟩ hTI hTO ⟨h1,is1⟩ ⟨h2,is2⟩ (by simpa using hu1) (by simpa using hu2) fun h' tk _ az a2 a3 a4 a5 a6 hk => wpAny_pure ⟨_,rfl,?_⟩) (F.args_zip_next_1 _))))
  obtain ⟨b1,b2,a2⟩ := a2
  refine wpAny_letOwnedTupleGo_zip (az (.inr hz)) fun h'' z1 sb => ?_
  have kk : ∀ b o,b ∉ [z,TI,TO,i1,i2] -> s.heap.get? b = some o -> h''.get? b = some o := fun b o hb q => sb.extBut b o (fun e => hb (by simp [e])) (hk b o (fun e => hb (by simp [e])) (fun e => hb (by simp [e])) (fun e => hb (by simp [e])) (fun e => hb (by simp [e])) q)
  have zl : z < s.heap.objs.size := Heap.lt_size hz
  have ht : IsTup h'' s.heap.objs.size [u1,u2].toArray := ⟨_,sb.extBut _ _ (Nat.ne_of_gt zl) a5,rfl,_,rfl⟩
  exact ⟨.ref s.heap.objs.size,upd H s.heap.objs.size (.tup [x,y]),I.yielded (tk := tk) (fun b hb => hf b hb) kk (Nat.le_refl _) ht (.cons ru1 (.cons ru2 .nil)) (by show 2 <= sizeLine; decide),rfl,
   ⟨_, rfl, I.hok.fresh (Nat.le_refl _), fun xs' ys' x' y' e1 e2 e3 e4 => by
    rw [S1.inj hK I e1 hq1,hx] at e3; rw [S2.inj hK I e2 hq2,hy] at e4; cases e3; cases e4; rfl⟩,
   ⟨z1, sb.extBut _ _ D.TI_z (hk _ _ D.TI_z D.TO_TI.symm D.i1_TI.symm D.i2_TI.symm hTI), ⟨_, _, sb.extBut _ _ D.TO_z a2⟩, S1.itk a3.1 fun o q => sb.extBut _ o D.i1_z q, S2.itk a4.1 fun o q => sb.extBut _ o D.i2_z q⟩, fun b hb => by
    have hbt : b < s.heap.objs.size := by
     simp only [List.mem_cons,List.not_mem_nil,or_false] at hb
     rcases hb with e | e | e | e | e <;> rw [e]
     ·exact zl
     ·exact Heap.lt_size hTI
     ·exact Heap.lt_size hTO
     ·obtain ⟨o,q,_⟩ := S1.ito h1; exact Heap.lt_size q
     ·obtain ⟨o,q,_⟩ := S2.ito h2; exact Heap.lt_size q
    rw [Au (Nat.ne_of_lt hbt)]; exact (hf b hb).1⟩
 done := by
  intro X hP hw hK hc i pins s σ H E I hf st hg
  subst hP hw
  obtain ⟨xs,ys,hq1,hq2,hend⟩ := hg
  obtain ⟨its1,rv1,is1,hz1⟩ := S1.get hK I hq1
  obtain ⟨its2,rv2,is2,hz2⟩ := S2.get hK I hq2
  obtain ⟨hz,hTI,⟨a,b',hTO⟩,h1,h2⟩ := st
  have hh := I.ok.hd hc
  have hT : s.TypeIs (.ref z) "zip" := ⟨_,hz,rfl⟩
  have e1 := rv1.length
  have e2 := rv2.length
  unfold pyNext
  refine wpAny_bind (wpAny_attempt (wpAny_callSpecial?_slot (name := Str.ofString "__next__") hT F.slot_zip_next (wpAny_call_entry F.slot_zip_next hT F.entry_zip_next
   (M2 S1 S2 hh D ⟨_,_,hz,.inl rfl,.inl rfl⟩ hTI hTO ⟨h1,is1⟩ ⟨h2,is2⟩ (by simp; omega) fun h' tk e hk he => ?_) (F.args_zip_next_1 _))))
  obtain ⟨o,ho,hco⟩ := he
  refine wpAny_bind (wpAny_isInstance (T := "StopIteration") (b := true) ⟨o,ho,hco⟩ isSubtype_stop ?_)
  exact wpAny_pure ⟨rfl,I.ended (wr := [z,TI,TO,i1,i2]) (tk := tk) (fun b hb => hf b hb) fun b o hb q => hk b o (fun e => hb (by simp [e])) (fun e => hb (by simp [e])) (fun e => hb (by simp [e])) (fun e => hb (by simp [e])) q⟩
 self := fun _ _ _ _ _ st h => wpAny_pyIter_zip st.1 h
def D7 {P : Program} {w : World} {K : PySem.W.Frag} (S1 S2 : A5 P w K) (ta : TA) : TI := fun σ H R => ta σ H fun vs H1 => ∃ a b,vs = [.ref a,.ref b] /\ (∃ xs,S1.Sq H1 a xs) /\ (∃ ys,S2.Sq H1 b ys) /\ R (DD S1 S2 a b) H1
theorem Hw {es : List Expr} {pos : Pos} (S1 S2 : A5 X.prog X.w X.K) (zn : D6 S1 S2) (hg : Gl X "zip") (hm : X.mg "zip" = none) (ha : PA X [e1,e2] ta)
  (hs : starEach [e1,e2] X.env = [(false,eval e1 X.env),(false,eval e2 X.env)]) (hs2 : starEach [e2] X.env = [(false,eval e2 X.env)]) : PI X (.Tuple es k pos') (.Call (.Name "zip" p) [e1,e2] [] pos) (D7 S1 S2 ta) := by
 intro pins s σ H R I h
 refine An (Jw S1 S2 zn (R := fun l1 l2 H1 => R (DD S1 S2 l1 l2) H1) hg hm ha hs hs2 I h) fun v s1 ⟨l1,l2,H1,m,e,q,I1,gz,gI,gO,g1,g2,h1,h2,fr,_⟩ => ?_
 subst e
 exact wpAny_pyIter_zip gz ⟨_,[m + 4,m + 2,m + 3,m,m + 1],_,_,H1,rfl,I1,M4 S1 S2 _ _ _ _ _ l1 l2 (Jy h1 h2),⟨gz,gI,⟨_,_,gO⟩,g1,g2⟩,fun b hb => fr b (by
  simp only [List.mem_cons,List.not_mem_nil,or_false] at hb
  rcases hb with e | e | e | e | e <;> rw [e] <;> first | exact Nat.le_refl _ | exact Nat.le_add_right _ _),q⟩
theorem M5 {es : List Expr} {pos : Pos} (hg : Gl X "zip") (hm : X.mg "zip" = none) (ha : PA X [e1,e2] ta)
  (hs : starEach [e1,e2] X.env = [(false,eval e1 X.env),(false,eval e2 X.env)] := by rfl) (hs2 : starEach [e2] X.env = [(false,eval e2 X.env)] := by rfl) : PI X (.Tuple es k pos') (.Call (.Name "zip" p) [e1,e2] [] pos) (D7 (BP X.prog X.w X.K) (EJ X.prog X.w X.K) ta) := Hw _ _ (M3 _ _ _) hg hm ha hs hs2
theorem M6 {es : List Expr} {pos : Pos} (hg : Gl X "zip") (hm : X.mg "zip" = none) (ha : PA X [e1,e2] ta)
  (hs : starEach [e1,e2] X.env = [(false,eval e1 X.env),(false,eval e2 X.env)] := by rfl) (hs2 : starEach [e2] X.env = [(false,eval e2 X.env)] := by rfl) : PI X (.Tuple es k pos') (.Call (.Name "zip" p) [e1,e2] [] pos) (D7 (BP X.prog X.w X.K) (BP X.prog X.w X.K) ta) := Hw _ _ (Jx _ _ _) hg hm ha hs hs2
end L2
end
section
namespace L2
open PySem PySem.Spec PyProof.Rows
variable {C : Int -> Int -> Prop} {y : V} {H : Hp} {Q : VK} {op op' : CmpOp} {r' : R2}
section
variable {X : Cx} {e a b c : Expr} {es rest : List Expr} {ta tb tc te : TE} {pos p : Pos} {tA tB' : TT} {t u : TS}
theorem PE.weak {t t' : TE} (h : PE X e t) (w : ∀ σ H Q,t' σ H Q -> t σ H Q) : PE X e t' := fun pins s σ H Q I q => h pins s σ H Q I (w σ H Q q)
def EK (i : Nat) : TE := fun σ H Q => match σ[i]? with | some (some v) => Q v H | _ => False
theorem cv (i : Nat) {x : Str} {pos : Pos} (hN : X.N[i]? = some x := by rfl) (hv : DV X.env.scope x := by first | exact Or.inl rfl | exact Or.inr (Or.inl rfl) | exact Or.inr (Or.inr rfl)) (hd : (x == ("__debug__" : Str)) = false := by decide)
  (hcd : (x == ("__classdict__" : Str)) = false := by decide) : PE X (.Name x pos) (EK i) := (Iv hN hv hd hcd).weak fun σ H Q q => by
 unfold EK at q
 split at q
 ·exact ⟨_,by assumption,q⟩
 ·exact q.elim
end
section
variable {X : Cx} {e a b c : Expr} {es rest : List Expr} {ta tb tc te : TE} {pos p : Pos}
theorem M7 {g : Int -> Int -> V} {x : V} (h : match x,y with | .int i,.int j => C i j /\ Q (g i j) H | _,_ => False) : rI C g x y H Q := by
 split at h
 ·exact ⟨_,_,rfl,rfl,h⟩
 ·exact h.elim
theorem M8 {g : Int -> Int -> V} {x : V} (h : match x,y with | .int i,.int j => Q (g i j) H | _,_ => False) : CD g x y H Q := by
 split at h
 ·exact ⟨_,_,rfl,rfl,h⟩
 ·exact h.elim
def mI (C : Int -> Int -> Prop) (g : Int -> Int -> V) : R2 := fun x y H Q => match x,y with | .int i,.int j => C i j /\ Q (g i j) H | _,_ => False
def mI0 (g : Int -> Int -> V) : R2 := fun x y H Q => match x,y with | .int i,.int j => Q (g i j) H | _,_ => False
theorem OpR.mI {f : Value -> Value -> Sem Value} {g : Int -> Int -> V} (h : OpR X f (rI C g)) : OpR X f (L2.mI C g) := fun pins s σ H x y v u Q I rx ry q => h pins s σ H x y v u Q I rx ry (M7 q)
theorem OpR.mI0 {f : Value -> Value -> Sem Value} {g : Int -> Int -> V} (h : OpR X f (CD g)) : OpR X f (L2.mI0 g) := fun pins s σ H x y v u Q I rx ry q => h pins s σ H x y v u Q I rx ry (M8 q)
theorem A8 : OpR X (binaryOp .Add) (mI0 fun i j => .int (i + j)) := op_add.mI0
theorem BF : OpR X (binaryOp .Sub) (mI0 fun i j => .int (i - j)) := op_sub.mI0
theorem CY : OpR X (binaryOp .Mult) (mI CMul fun i j => .int (i * j)) := op_mul.mI
theorem FN : OpR X (binaryOp .FloorDiv) (mI Ha fun i j => .int (i / j)) := op_fdiv.mI
theorem D8 : OpR X (binaryOp .Mod) (mI (fun _ j => 0 < j) fun i j => .int (i % j)) := op_mod.mI
theorem M9 : OpR X (binaryOp .Pow) (mI IL fun i j => .int (i ^ j.toNat)) := op_pow.mI
theorem DE : OpR X (compareOp .Lt) (mI0 fun i j => .bl (decide (i < j))) := op_lt.mI0
theorem CH : OpR X (compareOp .LtE) (mI0 fun i j => .bl (decide (i <= j))) := op_le.mI0
theorem Hx : OpR X (compareOp .Gt) (mI0 fun i j => .bl (decide (j < i))) := op_gt.mI0
theorem Na : OpR X (compareOp .GtE) (mI0 fun i j => .bl (decide (j <= i))) := op_ge.mI0
def mB (x : V) (Q : Bool -> Prop) : Prop := match x with | .bl c => Q c | _ => False
end
structure Mono (t : TE) : Prop where
 m : ∀ {σ H} {Q Q' : VK},t σ H Q -> (∀ v H',Q v H' -> Q' v H') -> t σ H Q'
section
variable {X : Cx} {e a b c : Expr} {es rest : List Expr} {te : TE} {pos p : Pos}
def cB (t : TE) : TT := fun σ H Q => t σ H fun x H1 => match x with | .bl c => Q c H1 | _ => False
theorem BG {t : TE} (h : PE X e t) (he : ∀ whole,isTrue e X.env whole = (do let v <- whole; standAt e.pos; holding [v] (truthy v)) := by intro _; rfl) : PT X e (cB t) := by
 intro pins s σ H Q I hw
 refine isTrue_plain (An (h pins s σ H _ I hw) fun v s1 ⟨x,H1,I1,r1,q1⟩ => ?_) (he _)
 dsimp only at q1
 split at q1
 ·cases r1; exact wpAny_truthy_bool ⟨H1,I1,q1⟩
 ·exact q1.elim
theorem AW {r : R2} {ta tb : TE} (ho : OpR X (compareOp op) r) (ha : PE X a ta) (hb : PE X b tb) (hm : behindInMarks op b = false) : PT X (.Compare a [op] [b] pos) (cB (Fq r ta tb)) := by
 intro pins s σ H Q I h
 refine wpAny_isTrue_Compare1 (An (ha pins s σ H _ I h) fun v s1 ⟨x,H1,I1,r1,q1⟩ => An (hb pins s1 σ H1 _ I1 q1) fun u s2 ⟨y,H2,I2,r2,q2⟩ =>
  An (ho pins s2 σ H2 x y v u _ I2 r1 r2 q2) fun c s3 ⟨z,H3,I3,r3,q3⟩ => ?_) hm
 dsimp only at q3
 split at q3
 ·cases r3; exact wpAny_truthy_bool ⟨H3,I3,q3⟩
 ·exact q3.elim
def Jz (r r' : R2) (ta tb tc : TE) : TE := fun σ H Q => ta σ H fun x H1 => tb σ H1 fun y H2 => r x y H2 fun z H3 => match z with | .bl k => br k (tc σ H3 fun w' H4 => r' y w' H4 Q) (Q (.bl false) H3) | _ => False
theorem JA {r : R2} {ta tb tc : TE} (ho : OpR X (compareOp op) r) (ho' : OpR X (compareOp op') r') (ha : PE X a ta) (hb : PE X b tb) (hc : PE X c tc)
  (hm : lastMarks [op,op'] [b,c] = false := by with_unfolding_all rfl) : PE X (.Compare a [op,op'] [b,c] pos) (Jz r r' ta tb tc) := by
 intro pins s σ H Q I h
 refine Compare_chain (An (ha pins s σ H _ I h) fun v s1 ⟨x,H1,I1,r1,q1⟩ => chain_link (An (hb pins s1 σ H1 _ I1 q1) fun u s2 ⟨y,H2,I2,r2,q2⟩ =>
  An (ho pins s2 σ H2 x y v u _ I2 r1 r2 q2) fun d s3 ⟨z,H3,I3,r3,q3⟩ => ?_)) hm
 dsimp only at q3
 split at q3
 ·rename_i k
  cases r3
  refine wpAny_truthy_bool ?_
  cases k with
  | false => exact ite_ff ⟨.bl false,H3,I3,rfl,q3.2 rfl⟩
  | true => exact ite_tt (chain_last (An (hc pins s3 σ H3 _ I3 (q3.1 rfl)) fun w' s4 ⟨z',H4,I4,r4,q4⟩ => ho' pins s4 σ H4 y z' u w' Q I4 r2 r4 q4))
 ·exact q3.elim
theorem JB {r : R2} {ta tb tc : TE} (ho : OpR X (compareOp op) r) (ho' : OpR X (compareOp op') r') (ha : PE X a ta) (hb : PE X b tb) (hc : PE X c tc)
  (hm : lastMarks [op,op'] [b,c] = false := by with_unfolding_all rfl) : PT X (.Compare a [op,op'] [b,c] pos) (cB (Jz r r' ta tb tc)) := by
 intro pins s σ H Q I h
 refine isTrue_chain (An (ha pins s σ H _ I h) fun v s1 ⟨x,H1,I1,r1,q1⟩ => test_link (An (hb pins s1 σ H1 _ I1 q1) fun u s2 ⟨y,H2,I2,r2,q2⟩ =>
  An (ho pins s2 σ H2 x y v u _ I2 r1 r2 q2) fun d s3 ⟨z,H3,I3,r3,q3⟩ => ?_)) hm
 dsimp only at q3
 split at q3
 ·rename_i k
  cases r3
  refine wpAny_truthy_bool ?_
  cases k with
  | false => exact ite_ff ⟨H3,I3,q3.2 rfl⟩
  | true =>
   refine ite_tt (test_last (An (hc pins s3 σ H3 _ I3 (q3.1 rfl)) fun w' s4 ⟨z',H4,I4,r4,q4⟩ => An (ho' pins s4 σ H4 y z' u w' _ I4 r2 r4 q4) fun d' s5 ⟨z2,H5,I5,r5,q5⟩ => ?_))
   dsimp only at q5
   split at q5
   ·cases r5; exact wpAny_truthy_bool ⟨H5,I5,q5⟩
   ·exact q5.elim
 ·exact q3.elim
def Nb (t u : TT) : TT := fun σ H Q => t σ H fun c H1 => br c (u σ H1 Q) (Q false H1)
def Nc (t u : TT) : TT := fun σ H Q => t σ H fun c H1 => br c (Q true H1) (u σ H1 Q)
theorem FO {tA tB' : TT} (ha : PT X a tA) (hb : PW X (.BoolOp .And (b :: rest) pos) tB') : PW X (.BoolOp .And (a :: b :: rest) pos) (Nb tA tB') := by
 intro wh pins s σ H Q I h
 refine isTrue_and (An (ha pins s σ H _ I h) fun c s1 ⟨H1,I1,q1⟩ => ?_)
 cases c with
 | true => exact hb wh pins s1 σ H1 Q I1 (q1.1 rfl)
 | false => exact ⟨H1,I1,q1.2 rfl⟩
theorem FP {tA tB' : TT} (ha : PT X a tA) (hb : PW X (.BoolOp .Or (b :: rest) pos) tB') : PW X (.BoolOp .Or (a :: b :: rest) pos) (Nc tA tB') := by
 intro wh pins s σ H Q I h
 refine isTrue_or (An (ha pins s σ H _ I h) fun c s1 ⟨H1,I1,q1⟩ => ?_)
 cases c with
 | true => exact ⟨H1,I1,q1.1 rfl⟩
 | false => exact hb wh pins s1 σ H1 Q I1 (q1.2 rfl)
def Nd (ta tb : TE) : TE := fun σ H Q => ta σ H fun x H1 => match x with | .bl c => br c (tb σ H1 Q) (Q (.bl false) H1) | _ => False
def Nf (ta tb : TE) : TE := fun σ H Q => ta σ H fun x H1 => match x with | .bl c => br c (Q (.bl true) H1) (tb σ H1 Q) | _ => False
def Ng (ta : TE) : TE := fun σ H Q => ta σ H fun x H1 => match x with | .bl c => Q (.bl (!c)) H1 | _ => False
theorem AZ {ta tb : TE} (ha : PE X a ta) (hb : PE X (.BoolOp .And (b :: rest) pos) tb) : PE X (.BoolOp .And (a :: b :: rest) pos) (Nd ta tb) := by
 intro pins s σ H Q I h
 refine BoolOp_and (An (ha pins s σ H _ I h) fun v s1 ⟨x,H1,I1,r1,q1⟩ => ?_)
 dsimp only at q1
 split at q1
 ·rename_i c
  cases r1
  refine wpAny_truthy_bool ?_
  cases c with
  | true => exact hb pins s1 σ H1 Q I1 (q1.1 rfl)
  | false => exact ⟨.bl false,H1,I1,rfl,q1.2 rfl⟩
 ·exact q1.elim
theorem Nh {ta tb : TE} (ha : PE X a ta) (hb : PE X (.BoolOp .Or (b :: rest) pos) tb) : PE X (.BoolOp .Or (a :: b :: rest) pos) (Nf ta tb) := by
 intro pins s σ H Q I h
 refine BoolOp_or (An (ha pins s σ H _ I h) fun v s1 ⟨x,H1,I1,r1,q1⟩ => ?_)
 dsimp only at q1
 split at q1
 ·rename_i c
  cases r1
  refine wpAny_truthy_bool ?_
  cases c with
  | false => exact hb pins s1 σ H1 Q I1 (q1.2 rfl)
  | true => exact ⟨.bl true,H1,I1,rfl,q1.1 rfl⟩
 ·exact q1.elim
theorem Ni {ta : TE} (ha : PE X a ta) : PE X (.UnaryOp .Not a pos) (Ng ta) := by
 intro pins s σ H Q I h
 refine UnaryOp_ (An (ha pins s σ H _ I h) fun v s1 ⟨x,H1,I1,r1,q1⟩ => ?_)
 dsimp only at q1
 split at q1
 ·rename_i c
  cases r1
  exact not_of (wpAny_truthy_bool ⟨.bl (!c),H1,I1,rfl,q1⟩)
 ·exact q1.elim
def Nj (t : TT) (ta tb : TE) : TE := fun σ H Q => t σ H fun c H1 => br c (ta σ H1 Q) (tb σ H1 Q)
theorem DF {ta tb : TE} {tA : TT} (hc : PT X c tA) (ha : PE X a ta) (hb : PE X b tb) : PE X (.IfExp c a b pos) (Nj tA ta tb) := by
 intro pins s σ H Q I h
 refine wpAny_IfExp (An (hc pins s σ H _ I h) fun d s1 ⟨H1,I1,q1⟩ => ?_)
 cases d with
 | true => exact ha pins s1 σ H1 Q I1 (q1.1 rfl)
 | false => exact hb pins s1 σ H1 Q I1 (q1.2 rfl)
def Nk (c : TT) (t u : TS) : TS := fun D σ H => c σ H fun b H1 => br b (t D σ H1) (u D σ H1)
theorem A1 {sa sb : List Stmt} {tc : TT} {t u : TS} (hc : PT X c tc) (ha : PSs X sa t) (hb : PSs X sb u) : PS X (.If c sa sb pos) (Nk tc t u) := by
 intro pins s σ H D I h
 refine wpAny_If (An (hc pins s σ H _ I h) fun d s1 ⟨H1,I1,q1⟩ => ?_)
 cases d with
 | true => exact ha pins s1 σ H1 D I1 (q1.1 rfl)
 | false => exact hb pins s1 σ H1 D I1 (q1.2 rfl)
end
section
variable {X : Cx} {es : List Expr} {t : TA} {pos : Pos}
theorem few {n : Nat} (h : Nat.ble n 64 = true) : n <= sizeLine := Nat.le_trans (Nat.le_of_ble_eq_true h) (by decide)
def Nl (t : TA) : TE := fun σ H Q => t σ H fun xs H1 => match Nat.ble xs.length 64 with | true => ∀ p,H1 p = none -> Q (.ref p) (upd H1 p (.tup xs)) | false => False
def Nm (t : TA) : TE := fun σ H Q => t σ H fun xs H1 => match Nat.ble xs.length 64 with | true => ∀ p,H1 p = none -> Q (.ref p) (upd H1 p (.lst xs)) | false => False
theorem Bs {x1} (h : PA X es t) : PE X (.Tuple es x1 pos) (Nl t) := by
 intro pins s σ H Q I hq
 refine wpAny_Tuple_spliced (An (h pos pins s σ H _ I hq) fun us s1 ⟨xs,H1,I1,r,q⟩ => ?_)
 dsimp only at q
 split at q
 ·rename_i z
  refine ⟨by rw [<- r.length]; exact few z,?_⟩
  have hf : H1 s1.heap.objs.size = none := I1.hok.fresh (Nat.le_refl _)
  refine ⟨.ref s1.heap.objs.size,upd H1 s1.heap.objs.size (.tup xs),I1.laid (t' := s1.toks) (fun b u e => Heap.get?_push_of_some _ e) (Nat.le_refl _) ?_,rfl,q _ hf⟩
  exact ⟨few z,us,r,⟨_,Heap.get?_push_size _ rfl,rfl,_,rfl⟩⟩
 ·exact q.elim
theorem BH (h : PA X es t) : PE X (.List es pos) (Nm t) := by
 intro pins s σ H Q I hq
 refine wpAny_List_spliced (An (h pos pins s σ H _ I hq) fun us s1 ⟨xs,H1,I1,r,q⟩ => ?_)
 dsimp only at q
 split at q
 ·rename_i z
  refine ⟨by rw [<- r.length]; exact few z,?_⟩
  have hf : H1 s1.heap.objs.size = none := I1.hok.fresh (Nat.le_refl _)
  refine ⟨.ref s1.heap.objs.size,upd H1 s1.heap.objs.size (.lst xs),I1.laid (t' := s1.toks) (fun b u e => Heap.get?_push_of_some _ e) (Nat.le_refl _) ?_,rfl,q _ hf⟩
  exact ⟨few z,us,0,r,Heap.get?_push_size _ rfl⟩
 ·exact q.elim
end
section
variable {P : Program} {w : World} {K : PySem.W.Frag} {mg : Str -> Option Value} {base : Heap}
structure Fn (P : Program) (w : World) (K : PySem.W.Frag) (mg : Str -> Option Value) (base : Heap) (n : Nat) (x : Str) (ps : List Str) (sp : Sp) : Prop where
 ex : ∃ (f : Addr) (fd : FuncData),Cv P w K mg base CX0 n f fd ps sp /\ mg x = some (.ref f) /\ PySem.W.keepIn K (.ref f) = true /\ Binds K fd ps []
structure Df (K : PySem.W.Frag) (mg : Str -> Option Value) (x : Str) (st : Stmt) (ps : List Str) : Prop where
 ex : ∃ (f : Addr) (fd : FuncData),Dz K x x st f fd /\ mg x = some (.ref f) /\ Binds K fd ps []
theorem Df.fn {x : Str} {st : Stmt} {N ps : List Str} {k : Nat} {sp : Sp} (F : Df K mg x st ps) (S : Aw N ps (Ap st)) (len : ∀ vs H Q E,sp vs H Q E -> vs.length = ps.length)
  (hbody : ∀ (f : Addr) (cdv : Value) (A : Around) (outer : List Env) (s : Shared) (H : Hp) (vs : List V) (Q : VK) (E : XK), Bf k (A.deeper (envOfC x (Ap st) s.heap.objs.size f cdv)) -> sp vs H Q E ->
   ∃ t,PSs (Dy CX0 P w K mg base N x (Ap st) f cdv A outer s H E).nox (BN st) t /\ t { nx := fun _ H' => Q .non H',rt := Q } (start N vs) H) : Fn P w K mg base (k + 1) x ps sp := by
 obtain ⟨f,fd,hF,hm,hb⟩ := F.ex
 exact ⟨f,fd,hF.ok S len fun cdv A outer s H vs Q E hr h => hbody f cdv A outer s H vs Q E hr h,hm,hF.kp,hb⟩
def Nn (sp : Sp) (t : TA) : TE := fun σ H Q => t σ H fun vs H1 => sp vs H1 Q E0
theorem Ag {X : Cx} {n : Nat} {x : Str} {ps : List Str} {sp : Sp} {e : Expr} {es : List Expr} {t : TA} {p pos : Pos} (F : Fn X.prog X.w X.K X.mg X.base n x ps sp) (hr : Bf n X.A) (hg : Gl X x) (ha : PA X (e :: es) t)
  (hdb : (x == ("__debug__" : Str)) = false := by decide) (he : starEach (e :: es) X.env = (false,eval e X.env) :: starEach es X.env := by rfl) (hpl : (backTo pos (starEach es X.env)).any (·.1) = false := by rfl) :
  PE X (.Call (.Name x p) (e :: es) [] pos) (Nn sp t) := by
 obtain ⟨f,fd,F,hm,hk,hb⟩ := F.ex
 refine (L7 (dvs := []) (E := E0) F hr hg hm hk hb .nil ML ha hdb he hpl).weak fun σ H Q q => ?_
 have e : ∀ vs : List V,vs ++ [] = vs := fun vs => List.append_nil vs
 show t σ H fun vs H1 => sp (vs ++ []) H1 Q E0
 simp only [e]
 exact q
end
end L2
end
section
namespace L2
open PySem PySem.Spec PyProof.Rows
variable {p a : Addr} {H H' : Hp} {xs : List V}
def DK (kvs : List (PyData × PyData)) (ks : List (AT × V)) : Prop := (kvs = [] /\ ks = []) \/ (kvs = [(.int 0,.int 1)] /\ ks = [(.inl 0,.int 1)])
mutual
def Aa (p : Addr) (H : Hp) : PyData -> V -> Prop
 | .none,v => v = .non
 | .bool b,v => v = .bl b
 | .int i,v => v = .int i
 | .str x,v => v = .str x
 | .tuple ds,v => ∃ a xs,v = .ref a /\ H a = some (.tup xs) /\ Ac p H ds xs
 | .list ds,v => ∃ a xs,v = .ref a /\ a ≠ p /\ H a = some (.lst xs) /\ Ac p H ds xs
 | .dict kvs,v => ∃ a ks,v = .ref a /\ a ≠ p /\ DK kvs ks /\ H a = some (.dK ks)
def Ac (p : Addr) (H : Hp) : List PyData -> List V -> Prop
 | [],xs => xs = []
 | d :: ds,xs => ∃ x r,xs = x :: r /\ Aa p H d x /\ Ac p H ds r
end
def Ev (p : Addr) (H H' : Hp) : Prop := ∀ b o,H b = some o -> (b = p /\ ∃ xs,o = .lst xs) \/ H' b = some o
theorem Ev.refl : Ev p H H := fun _ _ h => .inr h
theorem Ev.same (h : Ab H H') : Ev p H H' := fun b o q => .inr (h b o q)
theorem Ev.trans {H1 H2 : Hp} (h : Ev p H H1) (h' : Ev p H1 H2) : Ev p H H2 := fun b o q => (h b o q).elim .inl fun r => h' b o r
theorem Ev.tup (h : Ev p H H') (q : H a = some (.tup xs)) : H' a = some (.tup xs) := (h a _ q).elim (fun ⟨_,ys,e⟩ => nomatch e) id
theorem Ev.lst (h : Ev p H H') (q : H a = some (.lst xs)) (n : a ≠ p) : H' a = some (.lst xs) := (h a _ q).elim (fun ⟨e,_⟩ => absurd e n) id
theorem Ev.dk {ks : List (AT × V)} (h : Ev p H H') (q : H a = some (.dK ks)) : H' a = some (.dK ks) := (h a _ q).elim (fun ⟨_,ys,e⟩ => nomatch e) id
theorem Ev.new {o : HO} (h : H a = none) : Ev p H (upd H a o) := fun b u q => .inr (by rw [Au (Bd q h)]; exact q)
theorem Ev.pen {o : HO} (h : H p = some (.lst xs)) : Ev p H (upd H p o) := fun b u q => by
 by_cases e : b = p
 ·subst e; rw [h] at q; cases q; exact .inl ⟨rfl,xs,rfl⟩
 ·exact .inr (by rw [Au e]; exact q)
theorem Ab.new {o : HO} (h : H a = none) : Ab H (upd H a o) := fun b u q => by rw [Au (Bd q h)]; exact q
mutual
theorem Aa.ev (h : Ev p H H') : ∀ (d : PyData) (v : V),Aa p H d v -> Aa p H' d v
 | .none,v,q => q
 | .bool _,v,q => q
 | .int _,v,q => q
 | .str _,v,q => q
 | .tuple ds,v,q => by
  unfold Aa at q ⊢
  obtain ⟨a,xs,e,r,z⟩ := q
  exact ⟨a,xs,e,h.tup r,Ac.ev h ds xs z⟩
 | .list ds,v,q => by
  unfold Aa at q ⊢
  obtain ⟨a,xs,e,n,r,z⟩ := q
  exact ⟨a,xs,e,n,h.lst r n,Ac.ev h ds xs z⟩
 | .dict kvs,v,q => by
  unfold Aa at q ⊢
  obtain ⟨a,ks,e,n,k,r⟩ := q
  exact ⟨a,ks,e,n,k,h.dk r⟩
theorem Ac.ev (h : Ev p H H') : ∀ (ds : List PyData) (xs : List V),Ac p H ds xs -> Ac p H' ds xs
 | [],xs,q => by unfold Ac at q ⊢; exact q
 | d :: ds,xs,q => by
  unfold Ac at q ⊢
  obtain ⟨x,r,e,z,zs⟩ := q
  exact ⟨x,r,e,Aa.ev h d x z,Ac.ev h ds r zs⟩
end
theorem Ac.len : ∀ {ds : List PyData} {xs : List V},Ac p H ds xs -> ds.length = xs.length
 | [],xs,q => by unfold Ac at q; subst q; rfl
 | d :: ds,xs,q => by
  unfold Ac at q
  obtain ⟨x,r,e,z,zs⟩ := q
  subst e
  simp [Ac.len zs]
theorem Ac.get {p : Addr} {H : Hp} : ∀ {ds : List PyData} {xs : List V} {i : Nat} {d : PyData},Ac p H ds xs -> ds[i]? = some d -> ∃ x,xs[i]? = some x /\ Aa p H d x
 | [],xs,i,d,q,e => by simp at e
 | d :: ds,xs,0,d',q,e => by
  unfold Ac at q
  obtain ⟨x,r,rfl,z,zs⟩ := q
  simp at e; subst e
  exact ⟨x,rfl,z⟩
 | d :: ds,xs,i + 1,d',q,e => by
  unfold Ac at q
  obtain ⟨x,r,rfl,z,zs⟩ := q
  obtain ⟨y,hy,ry⟩ := Ac.get (i := i) zs (by simpa using e)
  exact ⟨y,by simpa using hy,ry⟩
theorem Ac.got {p : Addr} {H : Hp} : ∀ {ds : List PyData} {xs : List V} {i : Nat} {x : V},Ac p H ds xs -> xs[i]? = some x -> ∃ d,ds[i]? = some d /\ Aa p H d x
 | [],xs,i,x,q,e => by unfold Ac at q; subst q; simp at e
 | d :: ds,xs,0,x',q,e => by
  unfold Ac at q
  obtain ⟨x,r,rfl,z,zs⟩ := q
  simp at e; subst e
  exact ⟨d,rfl,z⟩
 | d :: ds,xs,i + 1,x',q,e => by
  unfold Ac at q
  obtain ⟨x,r,rfl,z,zs⟩ := q
  obtain ⟨y,hy,ry⟩ := Ac.got (i := i) zs (by simpa using e)
  exact ⟨y,by simpa using hy,ry⟩
theorem Ac.nil : Ac p H [] [] := by unfold Ac; rfl
theorem Ac.cons {d : PyData} {ds : List PyData} {x : V} (h : Aa p H d x) (r : Ac p H ds xs) : Ac p H (d :: ds) (x :: xs) := by unfold Ac; exact ⟨x,xs,rfl,h,r⟩
theorem Ac.append : ∀ {ds es : List PyData} {xs ys : List V},Ac p H ds xs -> Ac p H es ys -> Ac p H (ds ++ es) (xs ++ ys)
 | [],_,xs,_,q,r => by unfold Ac at q; subst q; exact r
 | d :: ds,_,xs,_,q,r => by
  unfold Ac at q
  obtain ⟨x,t,rfl,z,zs⟩ := q
  exact .cons z (Ac.append zs r)
theorem Aa.tup {ds : List PyData} (h : H a = some (.tup xs)) (r : Ac p H ds xs) : Aa p H (.tuple ds) (.ref a) := by unfold Aa; exact ⟨a,xs,rfl,h,r⟩
theorem Aa.int {i : Int} : Aa p H (.int i) (.int i) := by unfold Aa; rfl
theorem Aa.str {i : Str} : Aa p H (.str i) (.str i) := by unfold Aa; rfl
theorem Aa.non : Aa p H .none .non := by unfold Aa; rfl
def JC (x : V) (H : Hp) (n : String) : Prop := match x with
 | .non => n = "NoneType" | .bl _ => n = "bool" | .int _ => n = "int" | .str _ => n = "str"
 | .ref a => (n = "tuple" /\ ∃ xs,H a = some (.tup xs)) \/ (n = "list" /\ ∃ xs,H a = some (.lst xs)) \/ (n = "dict" /\ ∃ kvs,H a = some (.dK kvs))
 | _ => False
def No : PyData -> String
 | .none => "NoneType" | .bool _ => "bool" | .int _ => "int" | .str _ => "str" | .tuple _ => "tuple" | .list _ => "list" | .dict _ => "dict"
def Hy (n T : String) : Bool := n == T || (n == "bool" && T == "int")
theorem Aa.ty {v : V} : ∀ {d : PyData},Aa p H d v -> JC v H (No d)
 | .none,q => by unfold Aa at q; subst q; rfl
 | .bool _,q => by unfold Aa at q; subst q; rfl
 | .int _,q => by unfold Aa at q; subst q; rfl
 | .str _,q => by unfold Aa at q; subst q; rfl
 | .tuple ds,q => by unfold Aa at q; obtain ⟨a,xs,rfl,h,_⟩ := q; exact .inl ⟨rfl,xs,h⟩
 | .list ds,q => by unfold Aa at q; obtain ⟨a,xs,rfl,_,h,_⟩ := q; exact .inr (.inl ⟨rfl,xs,h⟩)
 | .dict kvs,q => by unfold Aa at q; obtain ⟨a,ks,rfl,_,_,h⟩ := q; exact .inr (.inr ⟨rfl,ks,h⟩)
def JD : List V -> Hp -> VK -> Prop := fun xs H Q => match xs with
 | [x,.ty T] => ∃ n,JC x H n /\ (T = "int" \/ T = "bool" \/ T = "tuple" \/ T = "list" \/ T = "str") /\ Q (.bl (Hy n T)) H
 | _ => False
section
variable {X : Cx}
theorem boot_int : bootBuiltins "int" = some (.type "int") := by decide +kernel
theorem boot_bool : bootBuiltins "bool" = some (.type "bool") := by decide +kernel
theorem Bn : bootBuiltins "tuple" = some (.type "tuple") := by decide +kernel
theorem Np : bootBuiltins "list" = some (.type "list") := by decide +kernel
theorem Hz : BL X (.builtin "isinstance") JD := by
 intro pins s σ H xs us Q I r h
 unfold JD at h
 split at h
 ·rename_i x T
  obtain ⟨n,ht,hT,q⟩ := h
  obtain ⟨u,v,rfl,ru,rv⟩ := r.two
  cases rv
  have yes : ∀ s' : Shared,Ae X pins σ H s' -> Hy n T = true -> EP X pins σ Q (.bool true) s' := fun s' I' e => ⟨.bl true,H,I',rfl,by rw [e] at q; exact q⟩
  have no : Hy n T = false -> EP X pins σ Q (.bool false) { s with toks := s.toks + 1 } := fun e => ⟨.bl false,H,I.tok _,rfl,by rw [e] at q; exact q⟩
  cases x with
  | non =>
   have e : n = "NoneType" := ht
   subst e; cases ru
   rcases hT with rfl | rfl | rfl | rfl | rfl
   ·exact IsiPair.NoneType_int (no rfl)
   ·exact IsiPair.NoneType_bool (no rfl)
   ·exact IsiPair.NoneType_tuple (no rfl)
   ·exact IsiPair.NoneType_list (no rfl)
   ·exact IsiPair.NoneType_str (no rfl)
  | bl k =>
   have e : n = "bool" := ht
   subst e; cases ru
   rcases hT with rfl | rfl | rfl | rfl | rfl
   ·exact IsiPair.bool_int (yes _ I rfl)
   ·exact IsiPair.bool_bool (yes _ I rfl)
   ·exact IsiPair.bool_tuple (no rfl)
   ·exact IsiPair.bool_list (no rfl)
   ·exact IsiPair.bool_str (no rfl)
  | int k =>
   have e : n = "int" := ht
   subst e; obtain ⟨t,rfl⟩ := ru
   rcases hT with rfl | rfl | rfl | rfl | rfl
   ·exact IsiPair.int_int (yes _ I rfl)
   ·exact IsiPair.int_bool (no rfl)
   ·exact IsiPair.int_tuple (no rfl)
   ·exact IsiPair.int_list (no rfl)
   ·exact IsiPair.int_str (no rfl)
  | str k =>
   have e : n = "str" := ht
   subst e; obtain ⟨t,rfl⟩ := ru
   rcases hT with rfl | rfl | rfl | rfl | rfl
   ·exact IsiPair.str_int (no rfl)
   ·exact IsiPair.str_bool (no rfl)
   ·exact IsiPair.str_tuple (no rfl)
   ·exact IsiPair.str_list (no rfl)
   ·exact IsiPair.str_str (yes _ I rfl)
  | ref a =>
   cases ru
   have ht' : (n = "tuple" /\ ∃ xs,H a = some (.tup xs)) \/ (n = "list" /\ ∃ xs,H a = some (.lst xs)) \/ (n = "dict" /\ ∃ kvs,H a = some (.dK kvs)) := ht
   rcases ht' with ⟨e,xs,hx⟩ | ⟨e,xs,hx⟩ | ⟨e,xs,hx⟩
   ·subst e
    obtain ⟨_,its,_,o,ho,hc,_⟩ := I.hok a _ hx
    rcases hT with rfl | rfl | rfl | rfl | rfl
    ·exact IsiPair.tuple_int ho hc (no rfl)
    ·exact IsiPair.tuple_bool ho hc (no rfl)
    ·exact IsiPair.tuple_tuple ho hc (yes _ I rfl)
    ·exact IsiPair.tuple_list ho hc (no rfl)
    ·exact IsiPair.tuple_str ho hc (no rfl)
   ·subst e
    obtain ⟨_,its,k,_,ho⟩ := I.hok a _ hx
    rcases hT with rfl | rfl | rfl | rfl | rfl
    ·exact IsiPair.list_int ho rfl (no rfl)
    ·exact IsiPair.list_bool ho rfl (no rfl)
    ·exact IsiPair.list_tuple ho rfl (no rfl)
    ·exact IsiPair.list_list ho rfl (yes _ I rfl)
    ·exact IsiPair.list_str ho rfl (no rfl)
   ·subst e
    obtain ⟨_,_,vs,_,o,es,ep,ho,hc,_⟩ := I.hok a _ hx
    have hc' : o.cls = .type "dict" := hc.1
    rcases hT with rfl | rfl | rfl | rfl | rfl
    ·exact IsiPair.dict_int ho hc' (no rfl)
    ·exact IsiPair.dict_bool ho hc' (no rfl)
    ·exact IsiPair.dict_tuple ho hc' (no rfl)
    ·exact IsiPair.dict_list ho hc' (no rfl)
    ·exact IsiPair.dict_str ho hc' (no rfl)
  | byt _ => exact (show False from ht).elim
  | flt _ => exact (show False from ht).elim
  | ty _ => exact (show False from ht).elim
 ·exact h.elim
theorem CZ (hc : X.calm = true) : BL X (.builtin "all") (fun xs H Q => ∃ (p : Addr) (bs : List Bool),xs = [.ref p] /\ H p = some (.lst (bs.map V.bl)) /\ Q (.bl (bs.all id)) H) := by
 intro pins s σ H xs us Q I r h
 obtain ⟨p,bs,rfl,hp,q⟩ := h
 obtain ⟨u,rfl,ru⟩ := r.one
 cases ru
 obtain ⟨its,rv,pl,hz⟩ := I.list (Am.of hp)
 refine call_all_walk (wpAny_pyIter_list pl.isList ?_)
 obtain ⟨ol,_,hol,_⟩ := id pl
 have hlt := Heap.lt_size hol
 refine ⟨s.heap.objs.size,_,_,_,_,_,fun i => bs.getD i false,rfl,Walks.list (A := X.A.in1) (I.ok.hd hc) s.heap.objs.size p (Nat.ne_of_lt hlt) its.toArray,⟨⟨_,Heap.get?_push_size _ rfl,rfl,rfl⟩,?_⟩,fun i v s' Q' E' hi hq => ?_,fun h' tk hk => ?_⟩
 ·exact pl.isList.at fun o e => Heap.get?_push_of_some _ e
 ·have hi' : its[i]? = some v := by simpa using hi
  have hl := rv.length
  have hb : i < bs.length := by have := (List.getElem?_eq_some_iff.mp hi').1; simp at hl; omega
  obtain ⟨u,hu,ru⟩ := rv.get (i := i) (x := .bl bs[i]) (by simp [hb])
  rw [hi'] at hu; cases hu; cases ru
  dsimp only at hq; rw [List.getD_eq_getElem?_getD,List.getElem?_eq_getElem hb] at hq
  exact wpAny_truthy_bool hq
 ·have hl := rv.length
  simp at hl
  have e : (List.range its.toArray.size).all (fun i => bs.getD i false) = bs.all id := by
   rw [List.size_toArray,<- hl,Bool.eq_iff_iff]
   simp only [List.all_eq_true,List.mem_range,id]
   constructor
   ·intro h x hx
    obtain ⟨i,hi,e⟩ := List.mem_iff_getElem.mp hx
    have := h i hi
    rw [List.getD_eq_getElem?_getD,List.getElem?_eq_getElem hi] at this
    rw [<- e]; exact this
   ·intro h i hi
    rw [List.getD_eq_getElem?_getD,List.getElem?_eq_getElem hi]
    exact h _ (List.getElem_mem hi)
  rw [e]
  refine ⟨.bl (bs.all id),H,I.kept fun b o eb => hk b o ?_ (Heap.get?_push_of_some _ eb),rfl,q⟩
  intro z
  have z' : b = s.heap.objs.size := by simpa using z
  exact absurd (Heap.lt_size eb) (by rw [z']; exact Nat.lt_irrefl _)
end
end L2
end
section
namespace L2
open PySem PySem.Spec PyProof.Rows
open AutoSeq1 (wpAny_loadPart')
section
variable {X : Cx}
def D9 (H : Hp) (xs : List V) (Q : VK) : Prop := ∀ r H',Ab H H' -> H' r = some (.tup xs) -> Q (.ref r) H'
theorem Ae.gotNew {pins : List (Addr × Obj)} {σ : St} {H : Hp} {s : Shared} {Q : VK} {xs : List V} {us : List Value} {t' : Nat} (I : Ae X pins σ H s) (q : D9 H xs Q) (rv : Ar xs us) (hz : xs.length <= sizeLine) :
  EP X pins σ Q (.ref s.heap.objs.size) { s with heap := s.heap.push { cls := .type "tuple",data := .seq us.toArray },toks := t' } :=
 ⟨.ref s.heap.objs.size,_,I.laid (o := .tup xs) (fun b ob e => Heap.get?_push_of_some _ e) (Nat.le_refl _) ⟨hz,us,rv,IsTup.new _ _⟩,rfl,q _ _ (Ab.new (I.hok.fresh (Nat.le_refl _))) Ai⟩
def Nq : R2 := fun x y H Q => ∃ a b xs ys,x = .ref a /\ y = .ref b /\ H a = some (.tup xs) /\ H b = some (.tup ys) /\ xs.length + ys.length <= 1000 /\ D9 H (xs ++ ys) Q
theorem DG : OpR X (binaryOp .Add) Nq := by
 intro pins s σ H x y v u Q I rx ry h
 obtain ⟨a,b,xs,ys,rfl,rfl,ha,hb,hz,q⟩ := h
 cases rx; cases ry
 obtain ⟨its,r1,ht,_⟩ := I.tuple (Ad.of ha)
 obtain ⟨its2,r2,ht2,_⟩ := I.tuple (Ad.of hb)
 obtain ⟨⟨cls,dd,data,sl⟩,ho,hc,n,hd⟩ := id ht; obtain ⟨⟨cls2,dd2,data2,sl2⟩,ho2,hc2,n2,hd2⟩ := id ht2; simp only at hc hd hc2 hd2; subst hc hd hc2 hd2
 have hl1 := r1.length; have hl2 := r2.length
 have hs : (1000 : Nat) <= sizeLine := by decide
 by_cases hv : its = []
 ·have e : xs = [] := by subst hv; cases r1; rfl
  refine concat_meets ⟨_,ho,rfl⟩ ⟨_,ho2,rfl⟩ noFill_tuple_add seq_tuple_add PySem.F.slot_tuple_add PySem.F.entry_tuple_add (PySem.F.args_tuple_add_2 _ _) (tuple_addW0 a b its.toArray its2.toArray n n2 dd dd2 sl sl2 (by simp [hv])) ⟨ho,ho2,?_⟩
  exact ⟨.ref b,H,I,rfl,q b H (Ab.refl _) (by rw [e]; exact hb)⟩
 ·by_cases hw : its2 = []
  ·have e : ys = [] := by subst hw; cases r2; rfl
   refine concat_meets ⟨_,ho,rfl⟩ ⟨_,ho2,rfl⟩ noFill_tuple_add seq_tuple_add PySem.F.slot_tuple_add PySem.F.entry_tuple_add (PySem.F.args_tuple_add_2 _ _) (tuple_addW1 a b its.toArray its2.toArray n n2 dd dd2 sl sl2 (by simpa using hv) (by simp [hw])) ⟨ho,ho2,?_⟩
   exact ⟨.ref a,H,I,rfl,q a H (Ab.refl _) (by rw [e,List.append_nil]; exact ha)⟩
  ·refine concat_meets ⟨_,ho,rfl⟩ ⟨_,ho2,rfl⟩ noFill_tuple_add seq_tuple_add PySem.F.slot_tuple_add PySem.F.entry_tuple_add (PySem.F.args_tuple_add_2 _ _)
    (tuple_addW2 a b its.toArray its2.toArray n n2 dd dd2 sl sl2 (by simpa using hv) (by simpa using hw) (by rw [List.size_toArray,List.size_toArray]; omega)) ⟨ho,ho2,?_⟩
   have e : its.toArray ++ its2.toArray = (its ++ its2).toArray := by simp
   rw [e]
   exact I.gotNew (t' := s.toks) q (r1.append r2) (by rw [List.length_append]; omega)
theorem Nr {t sl : Addr} {items : Array Value} {vl vu : Value} {lo hi : Option Int} {Q : Value -> Shared -> Prop} {prog : Program} {w : World} {A : Around} {E : Value -> Shared -> Prop} {s : Shared} (ht : IsTup s.heap t items) (hs : s.heap.IsSliceOf sl vl vu .none) (pl : IsPart vl lo) (pu : IsPart vu hi)
  (hw : HT.sIx items.size 0 lo = 0 /\ HT.sIx items.size items.size hi = items.size) (h : Q (.ref t) s) : wpAny (model prog w) A (getItem (.ref t) (.ref sl)) Q E s := by
 obtain ⟨os,hos,hcs,hds⟩ := id hs
 have hTs : s.TypeIs (.ref sl) "slice" := ⟨os,hos,hcs⟩
 unfold getItem
 try with_reducible refine wpAny_holding ?_
 first | refine wpAny_bind (wpAny_pure ?_) | skip
 refine wpAny_bind (wpAny_sequenceKey ht.typeIs (by decide) ?_)
 refine wpAny_bind (wpAny_callSpecial?_slot (name := Str.ofString "__getitem__") ht.typeIs PyProof.Rows.slot_tuple_getitem (wpAny_call_entry PyProof.Rows.slot_tuple_getitem ht.typeIs entry_tuple_getitem ?_ (args_tuple_getitem _ _)))
 show wpAny _ _ (Builtin.Tuple.tupleItemsOf (.ref t) >>= _) _ _ s; refine wpAny_bind (tupleItemsOf_ ht ?_); refine wpAny_bind (wpAny_typeOf hTs ?_); rw [if_pos (by decide)]
 refine wpAny_bind (HT.sliceApplied_gen hs pl pu ?_)
 rw [hw.1,hw.2]
 show wpAny _ _ (if (((0 : Nat) : Int) == 0 && (1 : Int) == 1 && (items.size - 0) == items.size) = true then _ else _) _ _ s
 rw [if_pos (by simp)]
 refine wpAny_bind (m := Builtin.Tuple.tupleIsExact _) ?_
 unfold Builtin.Tuple.tupleIsExact
 refine wpAny_bind (wpAny_typeOf ht.typeIs (wpAny_pure ?_))
 rw [if_pos (by decide)]
 exact wpAny_bind (wpAny_rule (wpAny_pure ⟨_,rfl,wpAny_pure h⟩))
def Nt : V -> Option Int -> Option Int -> Hp -> VK -> Prop := fun x lo hi H Q => ∃ a xs,x = .ref a /\ H a = some (.tup xs) /\ D9 H (BE xs lo hi) Q
theorem s_tup : Fz X Nt := by
 intro pins s σ H x v vl vu lo hi sl Q I rx hs pl pu h
 obtain ⟨a,xs,rfl,ha,q⟩ := h
 cases rx
 obtain ⟨its,r,ht,hz⟩ := I.tuple (Ad.of ha)
 have hlen : its.toArray.size = xs.length := by rw [List.size_toArray]; exact r.length.symm
 refine ⟨"tuple",_,PyProof.Rows.slot_tuple_getitem.lookup,ht.typeIs,?_⟩
 by_cases hw : HT.sIx xs.length 0 lo = 0 /\ HT.sIx xs.length xs.length hi = xs.length
 ·refine Nr ht hs pl pu (by rw [hlen]; exact hw) ⟨.ref a,H,I,rfl,q a H (Ab.refl _) ?_⟩
  unfold BE
  rw [hw.1,hw.2,List.drop_zero,Nat.sub_zero,List.take_length]
  exact ha
 ·refine HT.getItem_tuple_cut ht hs pl pu (by rw [hlen]; exact hw) ?_ (by rw [hlen]; exact hz)
  rw [hlen]
  have e : its.toArray.toList = its := rfl
  rw [e]
  exact I.gotNew (t' := s.toks) q ((r.drop _).take _) (Nat.le_trans (Hf xs lo hi) hz)
theorem JE : fillsNumberSlot (.type "tuple") "mul" = pure false :=
 PySem.fillsNumberSlot_seq (id := "tuple.__mul__") (r := some (.builtin "tuple.__rmul__")) F.slot_tuple_mul.lookup (by decide +kernel) F.slot_tuple_rmul.lookup (by decide +kernel)
theorem JF : seqRepeat? (.type "tuple") = pure (some (.builtin "tuple.__mul__")) := by
 unfold seqRepeat?; rw [PySem.seqSlot_of (T := "tuple") (name := "__mul__") (id := "tuple.__mul__") F.slot_tuple_mul.lookup (by decide +kernel),PySem.seqSlot_of (T := "tuple") (name := "__rmul__") (id := "tuple.__rmul__") F.slot_tuple_rmul.lookup (by decide +kernel)]; rfl
theorem JG (a : Int) (t : Tok) (l : Addr) (items : Array Value) (n : Nat) (dd : Option Addr) (sl : Array (Option Value)) :
  Meets (Builtin.«int.__rmul__» ⟨[.int a t,.ref l],[]⟩) (fun _ R s => s.heap.get? l = some { cls := .type "tuple",dict := dd,data := .seq items n,slots := sl } /\ R (.ok (.ret Value.notImplemented)) s) :=
 .of_wp fun prog w A R s h => by obtain ⟨hp,g,d,tk,os⟩ := s; obtain ⟨hl,h⟩ := h; wp_walk using wpAny_loadPart' hl; exact ⟨_,rfl,h⟩
theorem Nu (l : Addr) (items : Array Value) (n : Nat) (dd : Option Addr) (sl : Array (Option Value)) (x : Int) (u : Tok) (hc0 : ¬ (decide (x < -(2 ^ 63)) || decide (x ≥ 2 ^ 63)) = true) (hc1 : ¬ (items.isEmpty || x == 1) = true) (hc2 : ¬ (decide (x <= 0) || items.isEmpty) = true)
  (hc3 : ¬ (items.size : Int) * x > (2 ^ 63 - 1) / 8) (hc4 : ¬ Builtin.Tuple.tupleTooMany ((items.size : Int) * x) = true) (hsz : sizeOk (.seq ((List.replicate x.toNat items).foldl (fun a b => a ++ b) #[]))) :
  Meets (Builtin.«tuple.__mul__» ⟨[.ref l,.int x u],[]⟩) (fun _ R s => s.heap.get? l = some { cls := .type "tuple",dict := dd,data := .seq items n,slots := sl } /\ R (.ok (.ret (Value.ref s.heap.objs.size))) { s with heap := s.heap.push { cls := Value.type "tuple",data := Data.seq ((List.replicate x.toNat items).foldl (fun a b => a ++ b) #[]) } }) :=
 .of_wp fun prog w A R s h => by
  obtain ⟨hp,g,d,tk,os⟩ := s; obtain ⟨hl,h⟩ := h; have f1 := AutoSeq1.idx_int; have f2 := AutoSeq1.sub_tuple_tuple
  wp_walk using wpAny_loadPart' hl
  rw [if_neg hc0]
  refine wpAny_bind (tupleItemsOf_ (items := items) ⟨_,hl,rfl,n,rfl⟩ ?_)
  dsimp only
  rw [if_neg hc1,if_neg hc2,if_neg hc3,if_neg hc4]
  exact wpAny_bind (m := Builtin.Tuple.tupleExact _) (wpAny_newObj_type (wpAny_pure ⟨_,rfl,h⟩) hsz)
def Nv : R2 := fun x y H Q => ∃ a k xs,x = .ref a /\ y = .int k /\ H a = some (.tup xs) /\ xs ≠ [] /\ 2 <= k /\ k <= 100 /\ xs.length <= 100 /\ D9 H (List.replicate k.toNat xs).flatten Q
theorem Nw : OpR X (binaryOp .Mult) Nv := by
  intro pins s σ H x y v u Q I rx ry h
  obtain ⟨a,k,xs,rfl,rfl,ha,hx,h1,h2,h3,q⟩ := h
  cases rx
  obtain ⟨t,rfl⟩ := ry
  obtain ⟨its,r,ht,hz⟩ := I.tuple (Ad.of ha)
  obtain ⟨⟨cls,dd,data,sl⟩,ho,hc,n,hd⟩ := id ht; simp only at hc hd; subst hc hd
  have hl := r.length
  refine wpAny_binaryOp_repeat_ref (T := "tuple") (U := "int") (by decide) ⟨_,ho,rfl⟩ (fun s' => typeIs_int s' k t) JE F.fills_int_mul F.slot_int_rmul JF F.slot_int_index.lookup
    (call_meets F.slot_int_rmul (typeIs_int s k t) F.entry_int_rmul (F.args_int_rmul_2 _ _) (JG k t a its.toArray n dd sl) ⟨ho,rfl,⟨_,ho,rfl⟩,?_⟩)
  have hx' : ¬ its.toArray.isEmpty = true := by
    intro z
    have z' : its = [] := by simpa using z
    subst z'; cases r; exact hx rfl
  have fl : (List.replicate k.toNat its.toArray).foldl (fun a b => a ++ b) #[] = (List.replicate k.toNat its).flatten.toArray := by
    have := Jh its k.toNat []
    rw [List.nil_append] at this
    exact this
  have hp1 : (its.length : Int) * k <= 100 * 100 := Int.mul_le_mul (by omega) (by omega) (by omega) (by omega)
  have hlen : (List.replicate k.toNat its).flatten.length <= 10000 := by
    rw [Ji]
    have : k.toNat * its.length <= 100 * 100 := Nat.mul_le_mul (by omega) (by omega)
    omega
  have hbig : (10000 : Nat) <= sizeLine := by decide
  refine call_meets F.slot_tuple_mul ⟨_,ho,rfl⟩ F.entry_tuple_mul (F.args_tuple_mul_2 _ _) (Nu a its.toArray n dd sl k t (by simp; omega) (by simp only [hx',Bool.false_or]; simp; omega) (by simp only [hx',Bool.or_false]; simp; omega) (by rw [List.size_toArray]; omega)
    (by unfold Builtin.Tuple.tupleTooMany; rw [List.size_toArray]; simp; have : (sizeLine : Int) = 16777216 := by decide
        omega) (by rw [fl]; show (List.replicate k.toNat its).flatten.toArray.size <= sizeLine; rw [List.size_toArray]; omega)) ⟨ho,?_⟩
  rw [fl]
  exact I.gotNew (t' := s.toks) q (r.rep k.toNat) (by rw [Ji] at hlen ⊢; rw [hl]; omega)
end
end L2
end
section
namespace L2
open PySem PySem.Spec PyProof.Rows
open AutoSeq1 (wpAny_loadPart')
section
variable {X : Cx}
def Nx : List (PyData × PyData) -> Nat | [] => 2 | [(.int i,.int j)] => if i = 0 /\ j = 1 then 6 else 10 ^ 9 | _ => 10 ^ 9
mutual
def HA : PyData -> Nat
 | .none => 4 | .bool _ => 5 | .int i => if i.natAbs < 10 ^ 31 then 40 else 10 ^ 9 | .str x => (reprText x).length
 | .tuple ds => HB ds + 4 | .list ds => HB ds + 4 | .dict kvs => Nx kvs
def HB : List PyData -> Nat
 | [] => 0
 | d :: ds => HA d + 2 + HB ds
end
end
end L2
end
section
namespace L2
open PySem PySem.Spec PyProof.Rows
section
variable {X : Cx} {pins : List (Addr × Obj)} {σ : St} {H : Hp} {s : Shared}
mutual
theorem Aa.reads {p : Addr} (I : Ae X pins σ H s) : ∀ (d : PyData) (v : V) (u : Value),d.hasDict = false -> Aa p H d v -> Ay v u -> ∃ as,Reads s.heap u d as
 | .none,v,u,_,r,q => by unfold Aa at r; subst r; cases q; exact ⟨_,.none⟩
 | .bool b,v,u,_,r,q => by unfold Aa at r; subst r; cases q; exact ⟨_,.bool b⟩
 | .int i,v,u,_,r,q => by unfold Aa at r; subst r; obtain ⟨t,rfl⟩ := q; exact ⟨_,.int i t⟩
 | .str x,v,u,_,r,q => by unfold Aa at r; subst r; obtain ⟨t,rfl⟩ := q; exact ⟨_,.str x t⟩
 | .tuple ds,v,u,hd,r,q => by
  unfold Aa at r
  obtain ⟨a,xs,rfl,ha,rs⟩ := r
  cases q
  obtain ⟨its,rv,⟨o,ho,hc,n,hdt⟩,_⟩ := I.tuple (Ad.of ha)
  obtain ⟨as,ra⟩ := Ac.reads I ds xs its (by unfold PyData.hasDict at hd; exact hd) rs rv
  exact ⟨as,.tuple ho hc hdt ra⟩
 | .list ds,v,u,hd,r,q => by
  unfold Aa at r
  obtain ⟨a,xs,rfl,_,ha,rs⟩ := r
  cases q
  obtain ⟨its,rv,⟨o,n,ho,hc,_,hdt⟩,_⟩ := I.list (Am.of ha)
  obtain ⟨as,ra⟩ := Ac.reads I ds xs its (by unfold PyData.hasDict at hd; exact hd) rs rv
  exact ⟨a :: as,.list ho hc hdt ra⟩
 | .dict kvs,v,u,hd,_,_ => by unfold PyData.hasDict at hd; cases hd
theorem Ac.reads {p : Addr} (I : Ae X pins σ H s) : ∀ (ds : List PyData) (xs : List V) (us : List Value),PyData.hasDictAll ds = false -> Ac p H ds xs -> Ar xs us -> ∃ as,ReadsAll s.heap us ds as
 | [],xs,us,_,r,q => by unfold Ac at r; subst r; cases q; exact ⟨_,.nil⟩
 | d :: ds,xs,us,hd,r,q => by
  unfold Ac at r
  obtain ⟨x,t,rfl,rx,rt⟩ := r
  unfold PyData.hasDictAll at hd
  obtain ⟨h1,h2⟩ := Bool.or_eq_false_iff.mp hd
  cases q with
  | cons q1 q2 =>
   obtain ⟨as,ra⟩ := Aa.reads I d x _ h1 rx q1
   obtain ⟨bs,rb⟩ := Ac.reads I ds t _ h2 rt q2
   exact ⟨as ++ bs,.cons ra rb⟩
end
mutual
def JH : PyData -> Bool
 | .list _ => false | .tuple ds => JI ds | .none => true | .bool _ => true | .int _ => true | .str _ => true | .dict _ => true
def JI : List PyData -> Bool
 | [] => true
 | d :: ds => JH d && JI ds
end
structure Nice (d : PyData) : Prop where
 w : HA d <= 1000000
 dp : d.depth <= 20
 nd : d.hasDict = false \/ JH d = true
theorem Ae.big (I : Ae X pins σ H s) : sysModules < s.heap.objs.size := by
 have h : mainGlobals < s.heap.objs.size := (I.mod.glob.keeps I.bk).lt
 exact Nat.lt_trans (by decide) h
end
section
variable {X : Cx} {P : Program} {w : World}
theorem BY (K : PySem.W.Frag) (h : X.K = K := by rfl) : ED X (Jb K) := h ▸ Mm
theorem AV (K : PySem.W.Frag) (h : X.K = K := by rfl) : ED X (Jc K) := h ▸ Mo
theorem Ny (K : PySem.W.Frag) (h : X.K = K := by rfl) : Fz X (Je K) := h ▸ Mt
theorem DH (K : PySem.W.Frag) (h : X.K = K := by rfl) : OpR X (compareOp .In) (FB K false) := h ▸ Mv
theorem HC (K : PySem.W.Frag) (h : X.K = K := by rfl) : OpR X (compareOp .NotIn) (FB K true) := h ▸ Mw
def Nz (K : PySem.W.Frag) : List V -> Hp -> VK -> Prop := fun xs H Q => ∃ p ys,xs = [.ref p] /\ (Am K H p ys \/ Ad K H p ys) /\ Q (.int (ys : List V).length) H
theorem Bb (K : PySem.W.Frag) (h : X.K = K := by rfl) : BL X (.builtin "len") (Nz K) := h ▸ Mx
def NB (K : PySem.W.Frag) : List V -> Hp -> VK -> Prop := fun xs H Q => ∃ p ys,xs = [.ref p] /\ ((Am K H p ys /\ ∀ l,H l = none -> Q (.ref l) (upd H l (.tup ys))) \/ (Ad K H p ys /\ Q (.ref p) H))
theorem Bu (K : PySem.W.Frag) (h : X.K = K := by rfl) : BL X (.type "tuple") (NB K) := h ▸ My
theorem AD (K : PySem.W.Frag) {es : List Expr} {k : Nat} {t : Db} {n : Nat} {pos : Pos} (h : EA X es t) (hK : X.K = K := by rfl) (hc : X.calm = true := by rfl) (hn : (assignEach es X.env).length = n := by rfl) (hst : (assignEach es X.env).findIdx? (·.1) = none := by rfl) :
  PG X (.Tuple es k pos) (Iy K n t) := hK ▸ LH hc h hn hst
theorem Ea (K : PySem.W.Frag) {tg l : Expr} {tl : TE} (hl : PE X l tl) (h : X.K = K := by rfl) : PI X tg l (IE K tl) := h ▸ LR hl
theorem Bz (K : PySem.W.Frag) {tg l : Expr} {tl : TE} (hl : PE X l tl) (h : X.K = K := by rfl) : PI X tg l (IF K tl) := h ▸ LS hl
theorem Eb (P : Program) (w : World) (K : PySem.W.Frag) {es : List Expr} {k : Nat} {p pos pos' : Pos} {a : Expr} {ta : TA} (hg : Gl X "enumerate") (hm : X.mg "enumerate" = none) (ha : PA X [a] ta) (hP : X.prog = P := by rfl) (hw : X.w = w := by rfl) (hK : X.K = K := by rfl) (hs : starEach [a] X.env = [(false,eval a X.env)] := by rfl) :
  PI X (.Tuple es k pos') (.Call (.Name "enumerate" p) [a] [] pos) (Ju (BP P w K) ta) := by subst hP hw hK; exact M0 hg hm ha hs
theorem NC (P : Program) (w : World) (K : PySem.W.Frag) {es : List Expr} {k : Nat} {p pos pos' : Pos} {e1 e2 : Expr} {ta : TA} (hg : Gl X "zip") (hm : X.mg "zip" = none) (ha : PA X [e1,e2] ta) (hP : X.prog = P := by rfl) (hw : X.w = w := by rfl) (hK : X.K = K := by rfl)
  (hs : starEach [e1,e2] X.env = [(false,eval e1 X.env),(false,eval e2 X.env)] := by rfl) (hs2 : starEach [e2] X.env = [(false,eval e2 X.env)] := by rfl) :
  PI X (.Tuple es k pos') (.Call (.Name "zip" p) [e1,e2] [] pos) (D7 (BP P w K) (EJ P w K) ta) := by subst hP hw hK; exact M5 hg hm ha hs hs2
theorem Ec (P : Program) (w : World) (K : PySem.W.Frag) {es : List Expr} {k : Nat} {p pos pos' : Pos} {e1 e2 : Expr} {ta : TA} (hg : Gl X "zip") (hm : X.mg "zip" = none) (ha : PA X [e1,e2] ta) (hP : X.prog = P := by rfl) (hw : X.w = w := by rfl) (hK : X.K = K := by rfl)
  (hs : starEach [e1,e2] X.env = [(false,eval e1 X.env),(false,eval e2 X.env)] := by rfl) (hs2 : starEach [e2] X.env = [(false,eval e2 X.env)] := by rfl) :
  PI X (.Tuple es k pos') (.Call (.Name "zip" p) [e1,e2] [] pos) (D7 (BP P w K) (BP P w K) ta) := by subst hP hw hK; exact M6 hg hm ha hs hs2
end
section
variable {X : Cx}
def ND : List V -> Hp -> VK -> Prop := fun xs H Q => ∃ (p : Addr) (ns : List Int),xs = [.ref p] /\ H p = some (.lst (ns.map V.int)) /\ Q (.int ns.sum) H
theorem HD : ∀ {ns : List Int} {us : List Value},Ar (ns.map V.int) us -> IntsAre us ns
 | [],us,h => by cases h; exact .nil
 | n :: ns,us,h => by
  cases h with
  | cons r t => obtain ⟨k,rfl⟩ := r; exact .cons n k (HD t)
theorem FQ (hc : X.calm = true) : BL X (.builtin "sum") ND := by
 intro pins s σ H xs us Q I r h
 obtain ⟨p,ns,rfl,hp,q⟩ := h
 obtain ⟨u,rfl,ru⟩ := r.one
 cases ru
 obtain ⟨its,rv,pl,hz⟩ := I.list (Am.of hp)
 have hi := HD rv
 obtain ⟨xs,hx⟩ := AllInts.items hi.allInts
 have hl : s.heap.IsList p (intItems xs) := hx ▸ pl.isList
 refine sum_intListG (I.ok.hd hc) hl fun h' tk t' hk => ?_
 have e1 : ns = xs.toList.map (fun x => x.fst) := by rw [<- nums_intItems,<- hx,List.toList_toArray,hi.numsOf]
 have e2 : preSum (numAt xs) xs.size = ns.sum := by
  rw [preSum_eq,List.take_of_length_le (by simp),<- e1]
 rw [e2]
 exact ⟨.int ns.sum,H,I.kept fun b o eb => hk b o eb,⟨t',rfl⟩,q⟩
end
def EL (lo st : Int) (n : Nat) : It := { go := fun i _ => i < n,yld := fun i H x H' => H' = H /\ x = .int (lo + i * st),stop := fun i _ => n <= i }
theorem NE {P : Program} {w : World} {K : PySem.W.Frag} {tg : Expr} (it : Addr) (lo st : Int) (n : Nat) : Cr P w K tg (EL lo st n) [it] it (fun i h => IsRangeIter h it (lo + (i : Nat) * st) ((n : Int) - (i : Nat)) st) where
 mem := by simp
 obj := fun i h hs b hb => by
  obtain rfl : b = it := by simpa using hb
  exact ⟨_,hs,fun v z => by
   have z' : Data.fields _ = Data.cell v := z
   cases z'⟩
 keep := fun i h h' hs k => k it (by simp) _ hs
 item := by
  intro X hP hw hK hc i pins s σ H E I hf hs hg
  subst hP hw hK
  obtain ⟨f0,f1,f2,f3,f4,f5⟩ := hf it (by simp)
  have W := Walks.range (prog := X.prog) (w := X.w) (I.ok.hd hc) it lo st n
  refine W.item i s _ _ hg hs fun v h' tk hv st' kk => ?_
  obtain ⟨t,rfl⟩ := hv
  have I1 : Ae X pins σ H { s with heap := h',toks := tk } := I.turned (fun b o hb e => kk b o (by simpa using hb) e) f0 f1 f3 f4 f5
  exact ⟨_,rfl,Fp (s := { s with heap := h',toks := tk }) (n := "range_iterator") st' rfl rfl (by decide) ⟨.int (lo + i * st),H,I1,⟨t,rfl⟩,⟨rfl,rfl⟩,st',fun b hb => (hf b hb).1⟩⟩
 done := by
  intro X hP hw hK hc i pins s σ H E I hf hs hg
  subst hP hw hK
  obtain ⟨f0,f1,f2,f3,f4,f5⟩ := hf it (by simp)
  exact wpAny_pyNext_range_end (I.ok.hd hc) hs (by have : n <= i := hg; omega) fun h' eb => ⟨rfl,I.turned (t' := s.toks) (fun b o hb e => eb b o hb e) f0 f1 f3 f4 f5⟩
 self := fun _ _ _ _ _ hs h => wpAny_pyIter_rangeiter hs h
def C0 (i j k : Int) : Nat := (Builtin.Range.rangeSize i j k).toNat
theorem JJ {i j k : Int} (h : 1 <= k) (hi : -1000 <= i) (hj : j <= 1000) : 0 <= Builtin.Range.rangeSize i j k /\ Builtin.Range.rangeSize i j k <= 2001 := by
 unfold Builtin.Range.rangeSize
 rw [if_pos (by omega)]
 split
 ·have h1 : 0 <= (j - i - 1) / k := Int.ediv_nonneg (by omega) (by omega)
  have h2 : (j - i - 1) / k <= (j - i - 1) := Int.ediv_le_self _ (by omega)
  omega
 ·omega
theorem NF {i j k : Int} (h : 1 <= k) (hk : k <= 1000) (hi : -1000 <= i) (hi' : i <= 1000) (hj : -1000 <= j) (hj' : j <= 1000) : Builtin.Range.small i j k = true := by
 obtain ⟨a,b⟩ := JJ h hi hj'
 have f : ∀ z : Int,-5000 <= z -> z <= 5000 -> Builtin.Range.rangeFitsLong z = true := fun z z1 z2 => by
  unfold Builtin.Range.rangeFitsLong
  simp only [Bool.and_eq_true,decide_eq_true_eq]
  omega
 unfold Builtin.Range.small
 rw [f i (by omega) (by omega),f j (by omega) (by omega),f k (by omega) (by omega),f _ (by omega) (by omega),if_pos (by omega),f (j + (k - 1)) (by omega) (by omega)]
 simp
section
variable {X : Cx} {tg : Expr}
end
theorem NG {lo st : Int} {n : Nat} {g : TG} {tb : TS} {D : CS} {σ : St} {H : Hp} (Pv : Nat -> St -> Hp -> Prop) (h0 : Pv 0 σ H)
  (hs : ∀ i σ H,i < n -> Pv i σ H -> g (.int (lo + i * st)) σ H fun σ2 H2 => tb { D with nx := Pv (i + 1),ct := Pv (i + 1),bk := D.nx } σ2 H2) (hd : ∀ σ H,Pv n σ H -> D.nx σ H) :
  ∃ W : Nat -> Nat -> St -> Hp -> Prop,(∃ m,W 0 m σ H) /\ ∀ i m σ H,W i m σ H ->
   ((EL lo st n).stop i H /\ D.nx σ H) \/ ((EL lo st n).go i H /\ ∃ N : St -> Hp -> Prop,(∀ σ' H',N σ' H' -> ∃ m',m' < m /\ W (i + 1) m' σ' H') /\ ∀ x H',(EL lo st n).yld i H x H' -> g x σ H' fun σ2 H2 => tb { D with nx := N,ct := N,bk := D.nx } σ2 H2) := by
 refine ⟨fun i m σ H => m = n - i /\ i <= n /\ Pv i σ H,⟨n,by simp,Nat.zero_le _,h0⟩,?_⟩
 rintro i m σ H ⟨rfl,hi,p⟩
 by_cases hlt : i < n
 ·refine .inr ⟨hlt,Pv (i + 1),fun σ' H' p' => ⟨n - (i + 1),by omega,rfl,hlt,p'⟩,fun x H' ⟨e,y⟩ => ?_⟩
  subst e y
  exact hs i σ _ hlt p
 ·obtain rfl : i = n := by omega
  exact .inl ⟨Nat.le_refl _,hd σ H p⟩
end L2
end
section
namespace MF
open PySem PySem.Spec PyProof.Rows L2
variable {α : Type} {i : Nat} {h : Int} {ws : List Bool} {p : Addr} {H : Hp} {xs : List V}
theorem _root_.L2.walk_enum {P : Program} {w : World} {K : PySem.W.Frag} {S : A5 P w K} {a : Addr} {xs : List V} {cap : List (Option Nat)} {g : TG} {tt : TT} {te : TE} {σ : L2.St} {Q : List V -> Hp -> Prop} {H : Hp} (Pv : Nat -> List V -> Hp -> Prop) (hn : xs.length <= 100000) (h0 : Pv 0 [] H) (hz : ∀ i zs H,Pv i zs H -> zs.length <= i)
  (hl : ∀ i zs H,Pv i zs H -> S.Sq H a xs)
  (hs : ∀ i x zs H T,xs[i]? = some x -> Pv i zs H -> H T = none -> g (.ref T) (AK cap σ) (upd H T (.tup [.int i,x])) fun σ2 H2 => Keep (AK cap σ) σ2 /\ tt σ2 H2 fun b H3 => br b (te σ2 H3 fun y H4 => Pv (i + 1) (zs ++ [y]) H4) (Pv (i + 1) zs H3))
  (hd : ∀ zs H,Pv xs.length zs H -> Q zs H) : Dj (D0 S a) cap g tt te σ Q H :=
 DC xs.length Pv hn h0 hz (fun i zs H hi p => by
  have q := hl i zs H p
  refine ⟨⟨xs,xs[i],q,by simp [hi]⟩,fun v H' ⟨T,e,n,y⟩ => ?_⟩
  subst e
  rw [y xs xs[i] q (by simp [hi])]
  exact hs i xs[i] zs H T (by simp [hi]) p n)
  fun zs H p => ⟨⟨xs,hl _ zs H p,rfl⟩,hd zs H p⟩
theorem _root_.L2.for_enum {P : Program} {w : World} {K : PySem.W.Frag} {S : A5 P w K} {a : Addr} {xs : List V} {g : TG} {tb : TS} {D : CS} {σ : L2.St} {H : Hp} (Pv : Nat -> L2.St -> Hp -> Prop) (h0 : Pv 0 σ H) (hl : ∀ i σ H,Pv i σ H -> S.Sq H a xs)
  (hs : ∀ i x σ H T,xs[i]? = some x -> Pv i σ H -> H T = none -> g (.ref T) σ (upd H T (.tup [.int i,x])) fun σ2 H2 => tb { D with nx := Pv (i + 1),ct := Pv (i + 1),bk := D.nx } σ2 H2) (hd : ∀ σ H,Pv xs.length σ H -> D.nx σ H) :
  ∃ W : Nat -> Nat -> L2.St -> Hp -> Prop,(∃ m,W 0 m σ H) /\ ∀ i m σ H,W i m σ H ->
   ((D0 S a).stop i H /\ D.nx σ H) \/ ((D0 S a).go i H /\ ∃ N : L2.St -> Hp -> Prop,(∀ σ' H',N σ' H' -> ∃ m',m' < m /\ W (i + 1) m' σ' H') /\ ∀ x H',(D0 S a).yld i H x H' -> g x σ H' fun σ2 H2 => tb { D with nx := N,ct := N,bk := D.nx } σ2 H2) := by
 refine ⟨fun i m σ H => m = xs.length - i /\ i <= xs.length /\ Pv i σ H,⟨xs.length,by simp,Nat.zero_le _,h0⟩,?_⟩
 rintro i m σ H ⟨rfl,hi,p⟩
 have q := hl i σ H p
 by_cases hlt : i < xs.length
 ·refine .inr ⟨⟨xs,xs[i],q,by simp [hlt]⟩,Pv (i + 1),fun σ' H' p' => ⟨xs.length - (i + 1),by omega,rfl,hlt,p'⟩,fun x H' ⟨T,e,n,y⟩ => ?_⟩
  subst e
  rw [y xs xs[i] q (by simp [hlt])]
  exact hs i xs[i] σ H T (by simp [hlt]) p n
 ·obtain rfl : i = xs.length := by omega
  exact .inl ⟨⟨xs,q,rfl⟩,hd σ H p⟩
structure PL where
 bs : List (Int × Int)
 es : List (Int × Int × Int)
 lo : Int
 hi : Int
 st : Int
abbrev bD (q : Int × Int) : PyData := .tuple [.int q.1,.int q.2]
abbrev eD (q : Int × Int × Int) : PyData := .tuple [.int q.1,.int q.2.1,.int q.2.2]
def PL.d (P : PL) : PyData := .tuple [.tuple (P.bs.map bD),.tuple (P.es.map eD),.tuple [.int P.lo,.int P.hi,.int P.st]]
structure PL.ok (P : PL) : Prop where
 b : ∀ q ∈ P.bs,1 <= q.1 /\ q.1 <= 9 /\ 1 <= q.2 /\ q.2 <= 9
 b1 : 1 <= P.bs.length
 b4 : P.bs.length <= 4
 e : ∀ q ∈ P.es,1 <= q.1 /\ q.1 <= 9 /\ 0 <= q.2.1 /\ q.2.1 <= 7 /\ 1 <= q.2.2 /\ q.2.2 <= 8
 e4 : P.es.length <= 4
 lo0 : 0 <= P.lo
 ls : P.lo <= P.st
 sh : P.st <= P.hi
 h4 : P.hi <= 40
structure FT where
 b : Int
 out : Bool
 f : Int
 l : Int
def wS (b : Bool) : Str := if b then "out" else "scaled"
abbrev wV (b : Bool) : V := .str (wS b)
abbrev FT.d (x : FT) : PyData := .tuple [.int x.b,.str (wS x.out),.int x.f,.int x.l]
structure SY where
 ex : List Int
 fs : List FT
def SY.d (S : SY) : PyData := .tuple [.tuple (S.ex.map .int),.tuple (S.fs.map FT.d)]
structure FT.ok (x : FT) (n h : Nat) : Prop where
 b0 : 0 <= x.b
 bn : x.b < n
 f0 : 0 <= x.f
 fl : x.f <= x.l
 lh : x.l < h
structure SY.ok (S : SY) (n : Nat) : Prop where
 x1 : 1 <= S.ex.length
 x8 : S.ex.length <= 8
 x : ∀ u ∈ S.ex,0 <= u /\ u <= 20
 f4 : S.fs.length <= 4
 f : ∀ x ∈ S.fs,x.ok n S.ex.length
def BI (ws : List Bool) (m : Int) : Int := if ws.any id then 0 else if ws.any (!·) then m / 2 else m
def BZ (b h : Int) (x : FT) : Bool := x.b == b && decide (x.f <= h) && decide (h <= x.l)
def Bo (fs : List FT) (b h : Int) : List Bool := (fs.filter (BZ b h)).map FT.out
def Cf (bs : List (Int × Int)) (fs : List FT) (h : Int) : List Int := bs.zipIdx.map fun q => BI (Bo fs q.2 h) q.1.1
def caps (P : PL) (S : SY) : List (List Int) := (List.range S.ex.length).map fun (h : Nat) => Cf P.bs S.fs (h : Int)
def drawn (q : Int × Int × Int) (h : Int) : Int := if h < q.2.1 \/ (h - q.2.1) % q.2.2 ≠ 0 then 0 else q.1
def draws (P : PL) (S : SY) : List Int := S.ex.zipIdx.map fun q => q.1 + (P.es.map fun e => drawn e q.2).sum
abbrev AH (r : List Int) : PyData := .tuple (r.map .int)
def JK (P : PL) (S : SY) : PyData := .tuple ((caps P S).map AH)
def HE (P : PL) (S : SY) : PyData := AH (draws P S)
def ret (H : Hp) (Q : VK) (p : Addr) (d : PyData) : Prop := ∀ v H',Ab H H' -> Aa p H' d v -> Q v H'
theorem A2 {l : List α} {x : α} (h : l[i]? = some x) : l.take (i + 1) = l.take i ++ [x] := by rw [List.take_add_one,h]; rfl
theorem HF {bs : List (Int × Int)} {fs : List FT} {q : Int × Int} (hq : bs[i]? = some q) : (Cf bs fs h)[i]? = some (BI (Bo fs i h) q.1) := by
 unfold Cf; rw [List.getElem?_map,List.getElem?_zipIdx,hq]; simp
theorem FR {bs : List (Int × Int)} {fs : List FT} : (Cf bs fs h).length = bs.length := by unfold Cf; simp
theorem Ed {P : PL} {S : SY} (h : i < S.ex.length) : (caps P S)[i]? = some (Cf P.bs S.fs i) := by
 unfold caps; rw [List.getElem?_map,List.getElem?_range h]; rfl
theorem DI {P : PL} {S : SY} : (caps P S).length = S.ex.length := by unfold caps; simp
theorem HG {P : PL} {S : SY} {u : Int} (hu : S.ex[i]? = some u) : (draws P S)[i]? = some (u + (P.es.map fun e => drawn e i).sum) := by
 unfold draws; rw [List.getElem?_map,List.getElem?_zipIdx,hu]; simp
theorem Cg {P : PL} {S : SY} : (draws P S).length = S.ex.length := by unfold draws; simp
theorem FS : By (.str "out") (ws.map wV) = ws.any id := by
 induction ws with
 | nil => rfl
 | cons b ws ih =>
  unfold By at ih ⊢
  rw [List.map_cons,List.any_cons,ih,List.any_cons]
  cases b <;> rfl
theorem HH : By (.str "scaled") (ws.map wV) = ws.any (!·) := by
 induction ws with
 | nil => rfl
 | cons b ws ih =>
  unfold By at ih ⊢
  rw [List.map_cons,List.any_cons,ih,List.any_cons]
  cases b <;> rfl
theorem FU : (ws.map wV).all Cw = true := by
 rw [List.all_map,List.all_eq_true]
 intro b _
 rfl
theorem NH (b : Bool) : By (wV b) [.str "out",.str "scaled"] = true := by cases b <;> rfl
theorem JL {fs : List FT} {x : FT} {b : Int} (hx : fs[i]? = some x) : Bo (fs.take (i + 1)) b h = if BZ b h x then Bo (fs.take i) b h ++ [x.out] else Bo (fs.take i) b h := by
 unfold Bo
 rw [A2 hx,List.filter_append]
 by_cases c : BZ b h x = true
 ·rw [if_pos c,List.filter_cons_of_pos c,List.map_append]; rfl
 ·rw [if_neg c,List.filter_cons_of_neg c,List.filter_nil,List.append_nil]
theorem Ac.mapGot {f : α -> PyData} {l : List α} {x : V} (r : Ac p H (l.map f) xs) (h : xs[i]? = some x) : ∃ a,l[i]? = some a /\ Aa p H (f a) x := by
 obtain ⟨d,hd,rd⟩ := r.got h
 rw [List.getElem?_map] at hd
 cases z : l[i]? with
 | none => rw [z] at hd; cases hd
 | some a => rw [z] at hd; cases hd; exact ⟨a,rfl,rd⟩
theorem Ac.ints : ∀ {ns : List Int} {xs : List V},Ac p H (ns.map .int) xs -> xs = ns.map V.int
 | [],xs,r => by unfold Ac at r; exact r
 | n :: ns,xs,r => by
  rw [List.map_cons] at r
  unfold Ac at r
  obtain ⟨x,t,rfl,rx,rt⟩ := r
  unfold Aa at rx
  rw [rx,Ac.ints rt]; rfl
theorem Ac.ofInts : ∀ {ns : List Int},Ac p H (ns.map .int) (ns.map V.int)
 | [] => .nil
 | n :: ns => .cons Aa.int Ac.ofInts
theorem Ac.snoc {ds : List PyData} {d : PyData} {x : V} (r : Ac p H ds xs) (h : Aa p H d x) : Ac p H (ds ++ [d]) (xs ++ [x]) := r.append (.cons h .nil)
theorem Aa.row {a : Addr} {r : List Int} (h : H a = some (.tup (r.map V.int))) : Aa p H (AH r) (.ref a) := Aa.tup h Ac.ofInts
theorem Ab.own {H' : Hp} {b : Addr} {o : HO} (s : Ab H H') (n : H b = none) : Ab H (upd H' b o) := fun x u q => by rw [Au (Bd q n)]; exact s x u q
theorem Ac.four {a b c d : PyData} (r : Ac p H [a,b,c,d] xs) : ∃ x y z w,xs = [x,y,z,w] /\ Aa p H a x /\ Aa p H b y /\ Aa p H c z /\ Aa p H d w := by
 unfold Ac at r; obtain ⟨x,s,rfl,hx,r⟩ := r; unfold Ac at r; obtain ⟨y,s,rfl,hy,r⟩ := r; unfold Ac at r; obtain ⟨z,s,rfl,hz,r⟩ := r; unfold Ac at r; obtain ⟨w,s,rfl,hw,r⟩ := r; unfold Ac at r; subst r; exact ⟨x,y,z,w,rfl,hx,hy,hz,hw⟩
theorem NI {a b : V} (h : (!decide (a = b)) = true) : a ≠ b := by simpa using h
structure Small (n k : Nat) (d : PyData) : Prop where
 w : HA d <= n
 dp : d.depth <= k
 nd : d.hasDict = false
theorem NJ {ws : List Bool} {m : Int} (h0 : 0 <= m) (h9 : m <= 9) : 0 <= BI ws m /\ BI ws m <= m := by
 unfold BI
 split
 ·omega
 ·split
  ·omega
  ·omega
theorem EM {P : PL} {S : SY} (ok : P.ok) : ∀ r ∈ caps P S,(∀ i ∈ r,0 <= i /\ i <= 9) /\ r.length = P.bs.length := fun r hr => by
 unfold caps at hr
 obtain ⟨h,_,rfl⟩ := List.mem_map.mp hr
 refine ⟨fun i hi => ?_,FR⟩
 unfold Cf at hi
 obtain ⟨q,hq,rfl⟩ := List.mem_map.mp hi
 obtain ⟨b1,b2,_⟩ := ok.b q.1 (List.fst_mem_of_mem_zipIdx hq)
 have := NJ (ws := Bo S.fs q.2 h) (m := q.1.1) (by omega) b2
 omega
theorem NK {q : Int × Int × Int} (h1 : 1 <= q.1) (h9 : q.1 <= 9) : 0 <= drawn q h /\ drawn q h <= 9 := by
 unfold drawn
 split <;> omega
theorem JM {l : List Int} (h : ∀ i ∈ l,0 <= i /\ i <= 9) : 0 <= l.sum /\ l.sum <= 9 * l.length := by
 induction l with
 | nil => exact ⟨Int.le_refl _,Int.le_refl _⟩
 | cons a l ih =>
  have := h a List.mem_cons_self
  have := ih fun i hi => h i (List.mem_cons_of_mem _ hi)
  rw [List.sum_cons,List.length_cons]
  omega
theorem NL {P : PL} {S : SY} (ok : P.ok) {n : Nat} (so : S.ok n) : ∀ i ∈ draws P S,0 <= i /\ i <= 56 := fun i hi => by
 unfold draws at hi
 obtain ⟨q,hq,rfl⟩ := List.mem_map.mp hi
 have a := so.x q.1 (List.fst_mem_of_mem_zipIdx hq)
 have b := JM (l := P.es.map fun e => drawn e q.2) fun i hi => by
  obtain ⟨e,he,rfl⟩ := List.mem_map.mp hi
  obtain ⟨e1,e2,_⟩ := ok.e e he
  exact NK e1 e2
 rw [List.length_map] at b
 have := ok.e4
 omega
theorem NM {f e : Int} {n t : Nat} (he : 1 <= e) : t < C0 f n e ↔ f + t * e < n := by
 unfold C0 Builtin.Range.rangeSize
 rw [if_pos (by omega)]
 by_cases c : f < n
 ·rw [if_pos c]
  have h1 : 0 <= ((n : Int) - f - 1) / e := Int.ediv_nonneg (by omega) (by omega)
  have h2 : (t : Int) <= ((n : Int) - f - 1) / e ↔ (t : Int) * e <= (n : Int) - f - 1 := Int.le_ediv_iff_mul_le (by omega)
  constructor
  ·intro h
   have := h2.mp (by omega)
   omega
  ·intro h
   have := h2.mpr (by omega)
   omega
 ·rw [if_neg c]
  have h3 : 0 <= (t : Int) * e := Int.mul_nonneg (by omega) (by omega)
  constructor
  ·intro h; exact absurd h (Nat.not_lt_zero _)
  ·intro h; omega
theorem NN {m : Int} (c : ws.any id = false) : m / (1 + if ws.any (!·) = true then 1 else 0) = BI ws m := by
 unfold BI
 rw [c,if_neg (by decide : ¬ (false = true))]
 cases ws.any (!·) with
 | true => rfl
 | false => exact Int.ediv_one _
end MF
end
section
namespace L2
open PySem PySem.Spec PyProof.Rows
section
variable {X : Cx}
def NO : List V -> Hp -> VK -> Prop := fun xs H Q => ∃ (p : Addr) (ns : List Int),xs = [.ref p] /\ (H p = some (.lst (ns.map V.int)) \/ H p = some (.tup (ns.map V.int))) /\ Q (.int ns.sum) H
theorem DJ (hc : X.calm = true) : BL X (.builtin "sum") NO := by
 intro pins s σ H xs us Q I r h
 obtain ⟨p,ns,rfl,hp,q⟩ := h
 rcases hp with hp | hp
 ·exact FQ hc pins s σ H _ us Q I r ⟨p,ns,rfl,hp,q⟩
 obtain ⟨u,rfl,ru⟩ := r.one
 cases ru
 obtain ⟨its,rv,pl,hz⟩ := I.tuple (Ad.of hp)
 have hi := HD rv
 obtain ⟨xs,hx⟩ := AllInts.items hi.allInts
 have e1 : ns = xs.toList.map (fun x => x.fst) := by rw [<- nums_intItems,<- hx,List.toList_toArray,hi.numsOf]
 have e2 : preSum (numAt xs) xs.size = ns.sum := by
  rw [preSum_eq,List.take_of_length_le (by simp),<- e1]
 have hl : s.heap.IsTuple p (intItems xs) := hx ▸ (show s.heap.IsTuple p its.toArray from pl)
 refine call_sum_walkG (wpAny_pyIter_tuple hl ?_)
 have hlt : p < s.heap.objs.size := by
  obtain ⟨o,ho,_⟩ := id hl
  exact Heap.lt_size ho
 refine ⟨s.heap.objs.size,_,_,_,_,_,numAt xs,rfl,Walks.tuple (A := X.A.in1) (I.ok.hd hc) s.heap.objs.size p (Nat.ne_of_lt hlt) (intItems xs),⟨⟨_,Heap.get?_push_size _ rfl,rfl,rfl⟩,?_⟩,fun b hb => ?_,fun i v hv => intItems_at hv,fun h' tk t' hk => ?_⟩
 ·obtain ⟨o,ho,ho2⟩ := id hl
  exact ⟨o,Heap.get?_push_of_some _ ho,ho2⟩
 ·have : b = s.heap.objs.size \/ b = p := by simpa using hb
  rw [show (s.heap.push _).objs.size = s.heap.objs.size + 1 from Array.size_push _]
  rcases this with rfl | rfl
  ·exact Nat.lt_succ_self _
  ·exact Nat.lt_succ_of_lt hlt
 ·have e3 : (intItems xs).size = xs.size := Array.size_map
  rw [e3,e2]
  refine ⟨.int ns.sum,H,I.kept fun b o eb => hk b o ?_ (Heap.get?_push_of_some _ eb),⟨t',rfl⟩,q⟩
  intro z
  have z' : b = s.heap.objs.size := by simpa using z
  exact absurd (Heap.lt_size eb) (by rw [z']; exact Nat.lt_irrefl _)
end
end L2
end
section
namespace MF
open PySem PySem.Spec PyProof.Rows L2
variable {H H' : Hp} {P : PL} {S : SY} {p : Addr} {F : List (List Int)} {v u : V} {i k : Nat}
theorem _root_.L2.walk_zip {P : Program} {w : World} {K : PySem.W.Frag} {S1 S2 : A5 P w K} {a b : Addr} {xs ys : List V} {cap : List (Option Nat)} {g : TG} {tt : TT} {te : TE} {σ : L2.St} {Q : List V -> Hp -> Prop} {H : Hp} (Pv : Nat -> List V -> Hp -> Prop) (hn : xs.length <= 100000) (he : xs.length = ys.length) (h0 : Pv 0 [] H) (hz : ∀ i zs H,Pv i zs H -> zs.length <= i)
  (hl : ∀ i zs H,Pv i zs H -> S1.Sq H a xs /\ S2.Sq H b ys)
  (hs : ∀ i x y zs H T,xs[i]? = some x -> ys[i]? = some y -> Pv i zs H -> H T = none -> g (.ref T) (AK cap σ) (upd H T (.tup [x,y])) fun σ2 H2 => Keep (AK cap σ) σ2 /\ tt σ2 H2 fun b H3 => br b (te σ2 H3 fun y H4 => Pv (i + 1) (zs ++ [y]) H4) (Pv (i + 1) zs H3))
  (hd : ∀ zs H,Pv xs.length zs H -> Q zs H) : Dj (DD S1 S2 a b) cap g tt te σ Q H :=
 DC xs.length Pv hn h0 hz (fun i zs H hi p => by
  obtain ⟨q1,q2⟩ := hl i zs H p
  have hy : i < ys.length := by omega
  refine ⟨⟨xs,ys,xs[i],ys[i],q1,q2,by simp [hi],by simp [hy]⟩,fun v H' ⟨T,e,n,y⟩ => ?_⟩
  subst e
  rw [y xs ys xs[i] ys[i] q1 q2 (by simp [hi]) (by simp [hy])]
  exact hs i xs[i] ys[i] zs H T (by simp [hi]) (by simp [hy]) p n)
  fun zs H p => ⟨⟨xs,ys,(hl _ zs H p).1,(hl _ zs H p).2,rfl⟩,hd zs H p⟩
theorem Ab.evOwn {H2 : Hp} {R : Addr} (s : Ab H H2) (n : H R = none) (e : Ev R H2 H') : Ab H H' := fun b o q => (e b o (s b o q)).elim (fun ⟨z,_⟩ => by rw [z,n] at q; cases q) id
def FD (F : List (List Int)) : PyData := .tuple (F.map AH)
structure FOk (P : PL) (S : SY) (F : List (List Int)) : Prop where
 len : F.length = S.ex.length
 row : ∀ (i : Nat) (r : List Int),F[i]? = some r -> r.length = P.bs.length
 bd : ∀ (i : Nat) (r : List Int) (j : Nat) (x c : Int),F[i]? = some r -> r[j]? = some x -> (Cf P.bs S.fs i)[j]? = some c -> 0 <= x /\ x <= c
theorem FOk.caps (ok : P.ok) : FOk P S (caps P S) := by
 refine ⟨DI,fun i r hr => ?_,fun i r j x c hr hx hc => ?_⟩
 ·exact (EM ok r (List.mem_of_getElem? hr)).2
 ·have hi : i < S.ex.length := by
   have := (List.getElem?_eq_some_iff.mp hr).1
   rw [DI] at this; exact this
  rw [Ed hi] at hr
  cases hr
  rw [hx] at hc
  cases hc
  have := (EM (S := S) ok _ (List.mem_of_getElem? (Ed hi))).1 x (List.mem_of_getElem? hx)
  omega
structure Tri (p : Addr) (H : Hp) (P : PL) (S : SY) (F : List (List Int)) (v u w : V) : Prop where
 ok : P.ok
 so : S.ok P.bs.length
 fo : FOk P S F
 r : Aa p H P.d v
 ru : Aa p H S.d u
 rw : Aa p H (FD F) w
theorem Tri.ev {w : V} (t : Tri p H P S F v u w) (e : Ev p H H') : Tri p H' P S F v u w := ⟨t.ok,t.so,t.fo,Aa.ev e _ _ t.r,Aa.ev e _ _ t.ru,Aa.ev e _ _ t.rw⟩
theorem Tri.sm {w : V} (t : Tri p H P S F v u w) (e : Ab H H') : Tri p H' P S F v u w := t.ev (Ev.same e)
def made (F : List (List Int)) (i : Nat) : Int := (F.getD i []).sum
def Cy (P : PL) (S : SY) (i : Nat) : Int := (draws P S).getD i 0
def CI (hi m : Int) : Int := if 0 > m - hi then 0 else m - hi
def AN (P : PL) (S : SY) (F : List (List Int)) : Nat -> Int
 | 0 => P.st
 | i + 1 => AN P S F i + (made F i - Cy P S i) - CI P.hi (AN P S F i + (made F i - Cy P S i))
def Bp (P : PL) (S : SY) (F : List (List Int)) (i : Nat) : Int := AN P S F i + (made F i - Cy P S i)
theorem Ee : AN P S F (i + 1) = Bp P S F i - CI P.hi (Bp P S F i) := rfl
def JN (P : PL) (S : SY) (F : List (List Int)) (i : Nat) : PyData := .tuple [.int (made F i),.int (Cy P S i),.int (CI P.hi (Bp P S F i)),.int (AN P S F (i + 1))]
def Dk (P : PL) (S : SY) (F : List (List Int)) (k : Nat) : List PyData := (List.range k).map (JN P S F)
theorem NP : Dk P S F (k + 1) = Dk P S F k ++ [JN P S F k] := by unfold Dk; rw [List.range_succ,List.map_append]; rfl
theorem NQ : (Dk P S F k).length = k := by unfold Dk; simp
def EN : Option (Int × Int) -> PyData
 | none => .none
 | some q => .tuple [.int q.1,.int q.2]
structure EO (P : PL) (S : SY) (F : List (List Int)) (k : Nat) (s : Option (Int × Int)) : Prop where
 le : k <= S.ex.length
 up : ∀ i,i < k -> P.lo <= Bp P S F i
 fin : (s = none /\ k = S.ex.length) \/ (k < S.ex.length /\ Bp P S F k < P.lo /\ s = some ((k : Int),P.lo - Bp P S F k))
theorem Ef {r : List Int} (h : F[i]? = some r) : made F i = r.sum := by unfold made; rw [List.getD_eq_getElem?_getD,h]; rfl
theorem Eg {d : Int} (h : (draws P S)[i]? = some d) : Cy P S i = d := by unfold Cy; rw [List.getD_eq_getElem?_getD,h]; rfl
end MF
end
section
namespace MF
open PySem PySem.Spec PyProof.Rows L2
end MF
end
section
namespace L2
open PySem PySem.Spec PyProof.Rows
theorem NR (l : Addr) (items : Array Value) (n : Nat) (dd : Option Addr) (sl : Array (Option Value)) (u : Tok) :
  Meets (Builtin.«tuple.__mul__» ⟨[.ref l,.int 1 u],[]⟩) (fun _ R s => s.heap.get? l = some { cls := .type "tuple",dict := dd,data := .seq items n,slots := sl } /\ R (.ok (.ret (Value.ref l))) s) :=
 .of_wp fun prog w A R s h => by
  obtain ⟨hp,g,d,tk,os⟩ := s; obtain ⟨hl,h⟩ := h; have f1 := AutoSeq1.idx_int; have f2 := AutoSeq1.sub_tuple_tuple
  have ht : IsTup hp l items := ⟨_,hl,rfl,n,rfl⟩
  wp_walk using wpAny_loadPart' hl
  exact ⟨_,rfl,h⟩
section
variable {X : Cx}
def NS : R2 := fun x y H Q => ∃ a k xs,x = .ref a /\ y = .int k /\ H a = some (.tup xs) /\ xs ≠ [] /\ 1 <= k /\ k <= 100 /\ xs.length <= 100 /\ D9 H (List.replicate k.toNat xs).flatten Q
theorem NT : OpR X (binaryOp .Mult) NS := by
 intro pins s σ H x y v u Q I rx ry h
 obtain ⟨a,k,xs,rfl,rfl,ha,hx,h1,h2,h3,q⟩ := h
 by_cases hk : k = 1
 ·subst hk
  cases rx
  obtain ⟨t,rfl⟩ := ry
  obtain ⟨its,r,ht,hz⟩ := I.tuple (Ad.of ha)
  obtain ⟨⟨cls,dd,data,sl⟩,ho,hc,n,hd⟩ := id ht; simp only at hc hd; subst hc hd
  refine wpAny_binaryOp_repeat_ref (T := "tuple") (U := "int") (by decide) ⟨_,ho,rfl⟩ (fun s' => typeIs_int s' 1 t) JE F.fills_int_mul F.slot_int_rmul JF F.slot_int_index.lookup
   (call_meets F.slot_int_rmul (typeIs_int s 1 t) F.entry_int_rmul (F.args_int_rmul_2 _ _) (JG 1 t a its.toArray n dd sl) ⟨ho,rfl,⟨_,ho,rfl⟩,?_⟩)
  refine call_meets F.slot_tuple_mul ⟨_,ho,rfl⟩ F.entry_tuple_mul (F.args_tuple_mul_2 _ _) (NR a its.toArray n dd sl t) ⟨ho,?_⟩
  refine ⟨.ref a,H,I,rfl,q a H (Ab.refl _) ?_⟩
  rw [ha]
  simp
 ·exact Nw pins s σ H _ _ v u Q I rx ry ⟨a,k,xs,rfl,rfl,ha,hx,by omega,h2,h3,q⟩
end
end L2
end
section
namespace L2
open PySem PySem.Spec PyProof.Rows
variable {sc : Scope}
section
variable {X : Cx}
def FV (sc : Scope) (x : Str) : Bool := match sc.names.lookup x with | some .local => true | some .cell => true | some .free => true | _ => false
def FW (sc : Scope) (x : Str) : Bool := match sc.names.lookup x with | some .local => true | some .cell => true | _ => false
def FX (sc : Scope) (x : Str) : Bool := match sc.names.lookup x with | some .local => true | _ => false
theorem NU {x : Str} (h : FV sc x = true) : DV sc x := by
 unfold FV at h
 split at h
 ·exact .inl (by assumption)
 ·exact .inr (.inl (by assumption))
 ·exact .inr (.inr (by assumption))
 ·cases h
theorem AA {x : Str} (h : FW sc x = true) : C9 sc x := by
 unfold FW at h
 split at h
 ·exact .inl (by assumption)
 ·exact .inr (by assumption)
 ·cases h
theorem AR {f : Bool} {x : Str} (h : (f || FX sc x) = true) : f = true \/ sc.names.lookup x = some .local := by
 rcases Bool.or_eq_true_iff.mp h with h | h
 ·exact .inl h
 ·unfold FX at h
  split at h
  ·exact .inr (by assumption)
  ·cases h
theorem cw (i : Nat) {x : Str} {pos : Pos} (hN : X.N[i]? = some x) (hv : FV X.env.scope x = true) (hd : (x == ("__debug__" : Str) || x == ("__classdict__" : Str)) = false) : PE X (.Name x pos) (EK i) :=
 cv i hN (NU hv) (Bool.or_eq_false_iff.mp hd).1 (Bool.or_eq_false_iff.mp hd).2
theorem NV {x : Str} {pos : Pos} (i : Nat) (hN : X.N.Nodup) (hi : X.N[i]? = some x) (hx : FW X.env.scope x = true) (hf : (X.fn x || FX X.env.scope x) = true) : PG X (.Name x pos) (EB i) := LE hN hi (AA hx) (AR hf)
def JO (X : Cx) (i : Nat) (x : Str) : Bool := X.N[i]? == some x && (FV X.env.scope x && !(x == ("__debug__" : Str) || x == ("__classdict__" : Str)))
theorem cx (i : Nat) {x : Str} {pos : Pos} (h : JO X i x = true) : PE X (.Name x pos) (EK i) := by
 obtain ⟨h1,h2⟩ := Bool.and_eq_true_iff.mp h
 obtain ⟨h2,h3⟩ := Bool.and_eq_true_iff.mp h2
 exact cw i (eq_of_beq h1) h2 (by simpa using h3)
def JP (X : Cx) (i : Nat) (x : Str) : Bool := X.N[i]? == some x && (FW X.env.scope x && (X.fn x || FX X.env.scope x))
theorem Ak {x : Str} {pos : Pos} (i : Nat) (hN : X.N.Nodup) (h : JP X i x = true) : PG X (.Name x pos) (EB i) := by
 obtain ⟨h1,h2⟩ := Bool.and_eq_true_iff.mp h
 obtain ⟨h2,h3⟩ := Bool.and_eq_true_iff.mp h2
 exact NV i hN (eq_of_beq h1) h2 h3
theorem Az {l : List Str} (h : decide l.Nodup = true) : l.Nodup := of_decide_eq_true h
def nS : Expr -> Bool | .Starred _ _ => false | _ => true
theorem FY {e : Expr} {es : List Expr} {env : Env} (h : nS e = true) : starEach (e :: es) env = (false,eval e env) :: starEach es env := by
 cases e <;> first | rfl | exact absurd h Bool.false_ne_true
section
variable {e1 e2 e3 e4 : Expr} {t1 t2 t3 t4 : TE}
theorem Aq (h1 : PE X e1 t1) (hs : nS e1 = true) : PA X [e1] (Bm t1 CT) := Fx h1 BV (FY hs)
theorem As (h1 : PE X e1 t1) (h2 : PE X e2 t2) (hs : (nS e1 && nS e2) = true) : PA X [e1,e2] (Bm t1 (Bm t2 CT)) := Fx h1 (Aq h2 (Bool.and_eq_true_iff.mp hs).2) (FY (Bool.and_eq_true_iff.mp hs).1)
theorem AL (h1 : PE X e1 t1) (h2 : PE X e2 t2) (h3 : PE X e3 t3) (hs : (nS e1 && (nS e2 && nS e3)) = true) : PA X [e1,e2,e3] (Bm t1 (Bm t2 (Bm t3 CT))) := Fx h1 (As h2 h3 (Bool.and_eq_true_iff.mp hs).2) (FY (Bool.and_eq_true_iff.mp hs).1)
theorem C1 (h1 : PE X e1 t1) (h2 : PE X e2 t2) (h3 : PE X e3 t3) (h4 : PE X e4 t4) (hs : (nS e1 && (nS e2 && (nS e3 && nS e4))) = true) : PA X [e1,e2,e3,e4] (Bm t1 (Bm t2 (Bm t3 (Bm t4 CT)))) := Fx h1 (AL h2 h3 h4 (Bool.and_eq_true_iff.mp hs).2) (FY (Bool.and_eq_true_iff.mp hs).1)
end
end
end L2
end
section
namespace L2
open PySem PySem.Spec PyProof.Rows
section
variable {X : Cx}
theorem cy (i : Nat) {x : Str} {pos : Pos} (h : JO X i x = true := by rfl) : PE X (.Name x pos) (EK i) := cx i h
theorem AI {x : Str} {pos : Pos} (i : Nat) (hN : X.N.Nodup) (h : JP X i x = true := by rfl) : PG X (.Name x pos) (EB i) := Ak i hN h
section
variable {e1 e2 e3 e4 : Expr} {t1 t2 t3 t4 : TE}
theorem AJ (h1 : PE X e1 t1) (hs : nS e1 = true := by rfl) : PA X [e1] (Bm t1 CT) := Aq h1 hs
theorem AS (h1 : PE X e1 t1) (h2 : PE X e2 t2) (hs : (nS e1 && nS e2) = true := by rfl) : PA X [e1,e2] (Bm t1 (Bm t2 CT)) := As h1 h2 hs
theorem Be (h1 : PE X e1 t1) (h2 : PE X e2 t2) (h3 : PE X e3 t3) (hs : (nS e1 && (nS e2 && nS e3)) = true := by rfl) : PA X [e1,e2,e3] (Bm t1 (Bm t2 (Bm t3 CT))) := AL h1 h2 h3 hs
theorem HI (h1 : PE X e1 t1) (h2 : PE X e2 t2) (h3 : PE X e3 t3) (h4 : PE X e4 t4) (hs : (nS e1 && (nS e2 && (nS e3 && nS e4))) = true := by rfl) : PA X [e1,e2,e3,e4] (Bm t1 (Bm t2 (Bm t3 (Bm t4 CT)))) := C1 h1 h2 h3 h4 hs
end
end
end L2
end
section
namespace L2
open PySem PySem.Spec PyProof.Rows
section
variable {X : Cx}
end
end L2
namespace MF
open PySem PySem.Spec PyProof.Rows L2
end MF
end
section
namespace L2
open PySem PySem.Spec PyProof.Rows
abbrev Dl (elt tg1 it1 : Expr) (ifs1 : List Expr) (tg2 it2 : Expr) (ifs2 : List Expr) (scope : Scope) (pos : Pos) : Expr := .ListComp elt [⟨tg1,it1,ifs1,0⟩,⟨tg2,it2,ifs2,0⟩] scope pos
section
variable {prog : Program} {w : World} {A : Around} {R : Result -> Shared -> Prop} {s : Shared} {elt tg1 it1 tg2 it2 : Expr} {ifs1 ifs2 : List Expr} {scope : Scope} {pos : Pos} {it acc : Value} {env : Env}
theorem NW (h0 : codeAny (model prog w) A (.compLoop (Dl elt tg1 it1 ifs1 tg2 it2 ifs2 scope pos) 1 it acc env) R s)
  (h : wpAny (model prog w) A (pyIter it) (fun it' s' => codeAny (model prog w) A (.compLoop (Dl elt tg1 it1 ifs1 tg2 it2 ifs2 scope pos) 1 it' acc env) R s') (notedBy (model prog w) A env fun x s' => R (.error x) s') s) :
  codeAny (model prog w) A (.compStart (Dl elt tg1 it1 ifs1 tg2 it2 ifs2 scope pos) 1 it acc env) R s := by
 refine codeAny_of_tree (id (wpAny_notedAt (id (id (wpAny_bind (wpAny_askSetting (wpAny_ite ?_)))))))
 split
 ·exact wpAny_bind (wpAny_pure (wpAny_pure ⟨rfl,h0⟩))
 ·exact wpAny_bind (wpAny_rule (wpAny_bind (wpAny_standAt (wpAny_bind (wpAny_mono h (fun it' s' h' => wpAny_pure ⟨rfl,h'⟩) fun _ _ z => z)))))
end
def EQ (wi2 : TI) (g2 : TG) (tt2 : TT) (te : TE) : St -> List V -> Hp -> (List V -> Hp -> Prop) -> Prop := fun σ ys H N => wi2 σ H fun J H1 =>
 ∃ W : Nat -> Nat -> List V -> Hp -> Prop,(∃ m,W 0 m ys H1) /\ ∀ j m zs H,W j m zs H ->
  (J.stop j H /\ N zs H) \/
  (J.go j H /\ zs.length < sizeLine /\ ∃ N2 : List V -> Hp -> Prop, (∀ zs' H', N2 zs' H' -> ∃ m', m' < m /\ W (j + 1) m' zs' H') /\ ∀ x H', J.yld j H x H' -> g2 x σ H' fun σ3 H2 => Keep σ σ3 /\ tt2 σ3 H2 fun b H3 =>
   br b (te σ3 H3 fun y H4 => N2 (zs ++ [y]) H4) (N2 zs H3))
def JQ (wi : TI) (cap : List (Option Nat)) (g : TG) (tt : TT) (wi2 : TI) (g2 : TG) (tt2 : TT) (te : TE) : St -> Hp -> (List V -> Hp -> Prop) -> Prop := fun σ H Q => wi σ H fun J H1 =>
 ∃ W : Nat -> Nat -> List V -> Hp -> Prop,(∃ m,W 0 m [] H1) /\ ∀ i m ys H,W i m ys H ->
  (J.stop i H /\ Q ys H) \/
  (J.go i H /\ ∃ N : List V -> Hp -> Prop, (∀ ys' H', N ys' H' -> ∃ m', m' < m /\ W (i + 1) m' ys' H') /\ ∀ x H', J.yld i H x H' -> g x (AK cap σ) H' fun σ2 H2 => Keep (AK cap σ) σ2 /\ tt σ2 H2 fun b H3 =>
   br b (EQ wi2 g2 tt2 te σ2 ys H3 N) (N ys H3))
theorem NX {X : Cx} {tg iter tg2 iter2 elt : Expr} {ifs ifs2 : List Expr} {scope : Scope} {pos pos' : Pos} {wi wi2 : TI} {g g2 : TG} {tt tt2 : TT} {te : TE} {N' : List Str} {cap : List (Option Nat)} {use : Option (Value -> Sem Unit)} {Q' : Value -> Shared -> Prop}
  {pins : List (Addr × Obj)} {s : Shared} {σ : St} {H : Hp} {Q : List V -> Hp -> Prop}
  (hc : X.calm = true) (hi : PI X tg iter wi) (B : AG X.env.scope X.N scope N' cap) (hg : ∀ s H ex C,PG (AM X N' scope s H ex C) tg g) (ht : ∀ s H ex C,BX (AM X N' scope s H ex C) ifs tt)
  (hi2 : ∀ s H ex C,PI (AM X N' scope s H ex C) tg2 iter2 wi2) (hg2 : ∀ s H ex C,PG (AM X N' scope s H ex C) tg2 g2) (ht2 : ∀ s H ex C,BX (AM X N' scope s H ex C) ifs2 tt2) (he : ∀ s H ex C,PE (AM X N' scope s H ex C) elt te)
  (hs : ∀ x,foldedSetIterable iter X.env x = pure x) (hs2 : ∀ env x,foldedSetIterable iter2 env x = pure x) (I : Ae X pins σ H s) (h : JQ wi cap g tt wi2 g2 tt2 te σ H Q)
  (fin : ∀ (acc C : Addr) (H : Hp) (ys : List V) (s' : Shared),H acc = none -> Ae X pins σ (upd H acc (.lst ys)) s' -> FG X pins C (upd H acc (.lst ys)) s' -> Q ys H -> compPost (model X.prog X.w) X.A X.xe use Q' (.ref acc) C (.ok .next) s') :
  wpAny (model X.prog X.w) X.A (comprehension (Dl elt tg iter ifs tg2 iter2 ifs2 scope pos) scope X.env pos' (newList []) false (eval iter X.env) use) Q' X.xe s :=
 Jr MR (body := fun itv acc env => Hr (Dl elt tg iter ifs tg2 iter2 ifs2 scope pos) 0 iter2 itv acc env) (Bt := Jq Jn wi2 g2 tt2 (Hs te)) (Cd := fun _ => True) hc hi B hg ht (fun _ _ _ => rfl)
  (fun s H ex C a A => MS (body := fun itv => FH (Dl elt tg iter ifs tg2 iter2 ifs2 scope pos) 1 elt itv (.ref a) _) A rfl (hs2 _) (fun _ => rfl) NW (hi2 s H ex C) (hg2 s H ex C) (ht2 s H ex C) (Jp A rfl (he s H ex C)) fun _ _ z => z) (fun _ _ z => ⟨trivial,z⟩) hs I h fin
end L2
end
section
namespace L2
open PySem PySem.Spec PyProof.Rows
section
variable {X : Cx}
end
def JR (J : It) (g2 : TG) (tt2 : TT) (te : TE) (σ : St) (ys : List V) (N : List V -> Hp -> Prop) (H1 : Hp) : Prop :=
 ∃ W : Nat -> Nat -> List V -> Hp -> Prop,(∃ m,W 0 m ys H1) /\ ∀ j m zs H,W j m zs H ->
  (J.stop j H /\ N zs H) \/
  (J.go j H /\ zs.length < sizeLine /\ ∃ N2 : List V -> Hp -> Prop, (∀ zs' H', N2 zs' H' -> ∃ m', m' < m /\ W (j + 1) m' zs' H') /\ ∀ x H', J.yld j H x H' -> g2 x σ H' fun σ3 H2 => Keep σ σ3 /\ tt2 σ3 H2 fun b H3 =>
   br b (te σ3 H3 fun y H4 => N2 (zs ++ [y]) H4) (N2 zs H3))
def JS (J : It) (cap : List (Option Nat)) (g : TG) (tt : TT) (wi2 : TI) (g2 : TG) (tt2 : TT) (te : TE) (σ : St) (Q : List V -> Hp -> Prop) (H1 : Hp) : Prop :=
 ∃ W : Nat -> Nat -> List V -> Hp -> Prop,(∃ m,W 0 m [] H1) /\ ∀ i m ys H,W i m ys H ->
  (J.stop i H /\ Q ys H) \/
  (J.go i H /\ ∃ N : List V -> Hp -> Prop, (∀ ys' H', N ys' H' -> ∃ m', m' < m /\ W (i + 1) m' ys' H') /\ ∀ x H', J.yld i H x H' -> g x (AK cap σ) H' fun σ2 H2 => Keep (AK cap σ) σ2 /\ tt σ2 H2 fun b H3 =>
   br b (EQ wi2 g2 tt2 te σ2 ys H3 N) (N ys H3))
end L2
namespace MF
open PySem PySem.Spec PyProof.Rows L2
def BA (P : PL) (F : List (List Int)) : List Int := (List.range P.bs.length).map fun b => (F.map fun r => r.getD b 0).sum
def coal (P : PL) (F : List (List Int)) : Int := (((BA P F).zip P.bs).map fun q => q.1 * q.2.2).sum
end MF
end
section
namespace MF
open PySem PySem.Spec PyProof.Rows L2
abbrev Lt (d : PyData) : List Nat := d.shown.cps.toList
end MF
end
section
namespace L2
open PySem PySem.Spec PyProof.Rows
theorem JT {P : Program} {w : World} {K : PySem.W.Frag} {S1 S2 : A5 P w K} {a b : Addr} {xs ys : List V} {g : TG} {tb : TS} {D : CS} {σ : St} {H : Hp} (Pv : Nat -> St -> Hp -> Prop) (he : xs.length = ys.length) (h0 : Pv 0 σ H) (hl : ∀ i σ H,Pv i σ H -> S1.Sq H a xs /\ S2.Sq H b ys)
  (hs : ∀ i x y σ H T,xs[i]? = some x -> ys[i]? = some y -> Pv i σ H -> H T = none -> g (.ref T) σ (upd H T (.tup [x,y])) fun σ2 H2 => tb { D with nx := Pv (i + 1),ct := Pv (i + 1),bk := D.nx } σ2 H2) (hd : ∀ σ H,Pv xs.length σ H -> D.nx σ H) :
  ∃ W : Nat -> Nat -> St -> Hp -> Prop,(∃ m,W 0 m σ H) /\ ∀ i m σ H,W i m σ H ->
   ((DD S1 S2 a b).stop i H /\ D.nx σ H) \/ ((DD S1 S2 a b).go i H /\ ∃ N : St -> Hp -> Prop,(∀ σ' H',N σ' H' -> ∃ m',m' < m /\ W (i + 1) m' σ' H') /\ ∀ x H',(DD S1 S2 a b).yld i H x H' -> g x σ H' fun σ2 H2 => tb { D with nx := N,ct := N,bk := D.nx } σ2 H2) := by
 refine ⟨fun i m σ H => m = xs.length - i /\ i <= xs.length /\ Pv i σ H,⟨xs.length,by simp,Nat.zero_le _,h0⟩,?_⟩
 rintro i m σ H ⟨rfl,hi,p⟩
 obtain ⟨q1,q2⟩ := hl i σ H p
 by_cases hlt : i < xs.length
 ·have hy : i < ys.length := by omega
  refine .inr ⟨⟨xs,ys,xs[i],ys[i],q1,q2,by simp [hlt],by simp [hy]⟩,Pv (i + 1),fun σ' H' p' => ⟨xs.length - (i + 1),by omega,rfl,hlt,p'⟩,fun v H' ⟨T,e,n,y⟩ => ?_⟩
  subst e
  rw [y xs ys xs[i] ys[i] q1 q2 (by simp [hlt]) (by simp [hy])]
  exact hs i xs[i] ys[i] σ H T (by simp [hlt]) (by simp [hy]) p n
 ·obtain rfl : i = xs.length := by omega
  exact .inl ⟨⟨xs,ys,q1,q2,rfl⟩,hd σ H p⟩
section
variable {X : Cx}
theorem JU (hu : X.A.units < cLine) : OpR X (compareOp .NotEq) (fun x y H Q => ∃ (a b : Addr) (xs : List V),x = .ref a /\ y = .ref b /\ H a = some (.lst xs) /\ H b = some (.lst []) /\ Q (.bl (!xs.isEmpty)) H) := by
 intro pins s σ H x y v u Q I rx ry h
 obtain ⟨a,b,xs,rfl,rfl,ha,hb,q⟩ := h
 cases rx; cases ry
 obtain ⟨its,r1,p1,_⟩ := I.list (Am.of ha)
 obtain ⟨its2,r2,p2,_⟩ := I.list (Am.of hb)
 cases r2
 cases r1 with
 | nil => exact SeqAt.RcNeAt.lists (e := fun _ => true) p1.isList p2.isList (by simp) hu (fun j h1 h2 => absurd h1 (by simp)) _ _ _ _ (AU I q (by rfl))
 | cons r t => exact SeqAt.RcNeAt.lists_lengths p1.isList p2.isList (by simp) hu _ _ _ _ (AU I q (by rfl))
end
end L2
namespace MF
open PySem PySem.Spec PyProof.Rows L2
end MF
namespace L2
open PySem PySem.Spec PyProof.Rows
section
variable {X : Cx}
end
end L2
end
section
namespace L2
open PySem PySem.Spec PyProof.Rows
variable {tt tt2 : TT} {te : TE} {σ : St} {Q : List V -> Hp -> Prop} {H : Hp} {wi2 : TI} {g2 : TG}
theorem JV {lo : Int} {n : Nat} {g : TG} {ys : List V} (Pv : Nat -> List V -> Hp -> Prop) (h0 : Pv 0 ys H) (hz : ∀ i zs H,Pv i zs H -> zs.length < 100000)
  (hs : ∀ i zs H,i < n -> Pv i zs H -> g (.int (lo + i)) σ H fun σ2 H2 => Keep σ σ2 /\ tt σ2 H2 fun b H3 => br b (te σ2 H3 fun y H4 => Pv (i + 1) (zs ++ [y]) H4) (Pv (i + 1) zs H3))
  (hd : ∀ zs H,Pv n zs H -> Q zs H) : JR (CC lo n) g tt te σ ys Q H := by
 refine ⟨fun i m zs H => m = n - i /\ i <= n /\ Pv i zs H,⟨n,by simp,Nat.zero_le _,h0⟩,?_⟩
 rintro i m zs H ⟨rfl,hi,p⟩
 by_cases hlt : i < n
 ·refine .inr ⟨hlt,Nat.lt_trans (hz i zs H p) (by decide),Pv (i + 1),fun zs' H' p' => ⟨n - (i + 1),by omega,rfl,hlt,p'⟩,fun v H' ⟨e,y⟩ => ?_⟩
  subst e y
  exact hs i zs _ hlt p
 ·obtain rfl : i = n := by omega
  exact .inl ⟨Nat.le_refl _,hd zs H p⟩
theorem JW {lo : Int} {n : Nat} {cap : List (Option Nat)} {g : TG} (Pv : Nat -> List V -> Hp -> Prop) (h0 : Pv 0 [] H)
  (hs : ∀ i zs H,i < n -> Pv i zs H -> g (.int (lo + i)) (AK cap σ) H fun σ2 H2 => Keep (AK cap σ) σ2 /\ tt σ2 H2 fun b H3 => br b (EQ wi2 g2 tt2 te σ2 zs H3 (Pv (i + 1))) (Pv (i + 1) zs H3))
  (hd : ∀ zs H,Pv n zs H -> Q zs H) : JS (CC lo n) cap g tt wi2 g2 tt2 te σ Q H := by
 refine ⟨fun i m zs H => m = n - i /\ i <= n /\ Pv i zs H,⟨n,by simp,Nat.zero_le _,h0⟩,?_⟩
 rintro i m zs H ⟨rfl,hi,p⟩
 by_cases hlt : i < n
 ·refine .inr ⟨hlt,Pv (i + 1),fun zs' H' p' => ⟨n - (i + 1),by omega,rfl,hlt,p'⟩,fun v H' ⟨e,y⟩ => ?_⟩
  subst e y
  exact hs i zs _ hlt p
 ·obtain rfl : i = n := by omega
  exact .inl ⟨Nat.le_refl _,hd zs H p⟩
def NY (i : Nat) (wi : TI) (cap : List (Option Nat)) (g : TG) (tt : TT) (wi2 : TI) (g2 : TG) (tt2 : TT) (te : TE) : TS := fun D σ H => JQ wi cap g tt wi2 g2 tt2 te σ H fun ys H' => ∀ p,H' p = none -> D.nx (σ.set i (some (.ref p))) (upd H' p (.lst ys))
theorem HJ {X : Cx} {i : Nat} {y : Str} {tg iter tg2 iter2 elt : Expr} {ifs ifs2 : List Expr} {scope : Scope} {pos pos' pos'' : Pos} {wi : TI} {g : TG} (N' : List Str) (cap : List (Option Nat)) (hN : X.N.Nodup) (hin : X.N[i]? = some y) (hy : C9 X.env.scope y)
  (hc : X.calm = true) (hi : PI X tg iter wi) (B : AG X.env.scope X.N scope N' cap) (hg : ∀ s H ex C,PG (AM X N' scope s H ex C) tg g) (ht : ∀ s H ex C,BX (AM X N' scope s H ex C) ifs tt)
  (hi2 : ∀ s H ex C,PI (AM X N' scope s H ex C) tg2 iter2 wi2) (hg2 : ∀ s H ex C,PG (AM X N' scope s H ex C) tg2 g2) (ht2 : ∀ s H ex C,BX (AM X N' scope s H ex C) ifs2 tt2) (he : ∀ s H ex C,PE (AM X N' scope s H ex C) elt te)
  (hsw : swapsWith (Dl elt tg iter ifs tg2 iter2 ifs2 scope pos) (some (.Name y pos')) pos''.line X.env = pure true := by rfl)
  (hf : X.fn y = true \/ X.env.scope.names.lookup y = some .local := by first | exact .inl rfl | exact .inr rfl | assumption)
  (hs : ∀ x,foldedSetIterable iter X.env x = pure x := by intro _; rfl) (hs2 : ∀ env x,foldedSetIterable iter2 env x = pure x := by intro _ _; rfl) : PS X (.Assign [.Name y pos'] (.ListComp elt [⟨tg,iter,ifs,0⟩,⟨tg2,iter2,ifs2,0⟩] scope pos) pos'') (NY i wi cap g tt wi2 g2 tt2 te) := by
 intro pins s σ H D I h
 rw [exec_Assign_Name_used _ _ _ _ hsw]
 refine wpAny_bind (wpAny_standAt (wpAny_bind ?_))
 show wpAny _ X.A (do let _ <- comprehension (Dl elt tg iter ifs tg2 iter2 ifs2 scope pos) scope X.env _ (newList []) false (eval iter X.env) (some (assign (.Name y pos') X.env))) _ _ s
 refine wpAny_bind (wpAny_mono (NX (use := some (assign (.Name y pos') X.env)) (Q' := fun _ s' => SP X pins D .next s') hc hi B hg ht hi2 hg2 ht2 he hs hs2 I h fun acc C H ys s' hn I' L q => ?_) (fun _ s' hq => wpAny_pure (wpAny_pure hq)) fun _ _ e => e)
 obtain ⟨m,hm⟩ := L.ns
 refine wpAny_assign_Name (GZ I' hN hin hy (show Ay (.ref acc) (.ref acc) from rfl) (fun s'' I'' ⟨a,sb,ha⟩ => ?_) hf)
 have hCa : C ≠ a := by
  rcases ha with e | e
  ·rw [e]; exact L.loc
  ·exact fun z => L.cell _ _ e z.symm
 refine ⟨m,hm.sameBut sb hCa,fun h' hsb => ?_⟩
 exact ⟨_,_,I''.turned (t' := s''.toks) (it := C) (fun b o hb e => hsb.extBut b o hb e) L.free L.loc (.inr L.sz) L.cell L.pin,q acc hn⟩
def NZ (te : TE) : TT := fun σ H Q => te σ H fun x H' => ∃ a xs,x = .ref a /\ H' a = some (.lst xs) /\ Q (!xs.isEmpty) H'
theorem N0 {X : Cx} {a : Expr} {ta : TE} (ha : PE X a ta) (he : ∀ whole,isTrue a X.env whole = (do let v <- whole; standAt a.pos; holding [v] (truthy v)) := by intro _; rfl) : PT X a (NZ ta) := by
 intro pins s σ H Q I h
 refine isTrue_plain (An (ha pins s σ H _ I h) fun v s1 ⟨x,H1,I1,r1,q1⟩ => ?_) (he _)
 obtain ⟨b,xs,rfl,hb,q⟩ := q1
 cases r1
 obtain ⟨its,r,pl,hz⟩ := I1.list (Am.of hb)
 have hlen := r.length
 have big : sizeLine < 2 ^ 63 := by decide
 exact wpAny_truthy_list pl.isList (by simp only [List.size_toArray]; omega) ⟨H1,I1.tok _,by rw [IQ r]; exact q⟩
theorem N1 (l b : Addr) (es : Array PySem.DictEntry) (ep : Nat) (items2 : Array Value) (n2 : Nat) (dd dd2 : Option Addr) (sl sl2 : Array (Option Value)) :
  Meets (Builtin.«dict.__eq__» ⟨[.ref l,.ref b],[]⟩) (fun _ R s => s.heap.get? l = some { cls := .type "dict",dict := dd,data := .dict es ep,slots := sl } /\ s.heap.get? b = some { cls := .type "tuple",dict := dd2,data := .seq items2 n2,slots := sl2 } /\ R (.ok (.ret .notImplemented)) s) :=
 .of_wp fun prog w A R s h => by obtain ⟨hp,g,d,tk,os⟩ := s; obtain ⟨hl,hb,h⟩ := h; have f1 := F.sub_tuple_dict; wp_walk using AutoSeq1.wpAny_loadPart' hl,AutoSeq1.wpAny_loadPart' hb; exact ⟨_,rfl,h⟩
theorem N3 (l b : Addr) (es : Array PySem.DictEntry) (ep : Nat) (items : Array Value) (n : Nat) (dd dd2 : Option Addr) (sl sl2 : Array (Option Value)) :
  Meets (Builtin.«tuple.__eq__» ⟨[.ref l,.ref b],[]⟩) (fun _ R s => s.heap.get? l = some { cls := .type "tuple",dict := dd,data := .seq items n,slots := sl } /\ s.heap.get? b = some { cls := .type "dict",dict := dd2,data := .dict es ep,slots := sl2 } /\ R (.ok (.ret .notImplemented)) s) :=
 .of_wp fun prog w A R s h => by obtain ⟨hp,g,d,tk,os⟩ := s; obtain ⟨hl,hb,h⟩ := h; have f1 := F.sub_dict_tuple; wp_walk using AutoSeq1.wpAny_loadPart' hl,AutoSeq1.wpAny_loadPart' hb; exact ⟨_,rfl,h⟩
section
variable {X : Cx}
def N4 : R2 := fun x y H Q => ∃ p d e,Aa p H d x /\ Aa p H e y /\ e.canLay0 = true /\ e.hasDict = false /\ e.depth <= 20 /\ ((d.canLay0 = true /\ d.hasDict = false /\ Q (.bl (PyData.eqv d e)) H) \/ (d = .dict [] /\ (∃ es,e = .tuple es) /\ Q (.bl false) H))
theorem N5 {k : Nat} (hr : Bf k X.A) : OpR X (compareOp .Eq) N4 := by
 intro pins s σ H x y v u Q I rx ry h
 obtain ⟨p,d,e,rd,re,ce,he,dp,h⟩ := h
 have un := hr.un
 obtain ⟨bs,rb⟩ := Aa.reads I e y u he re ry
 rcases h with ⟨cd,hd,q⟩ | ⟨rfl,⟨es,rfl⟩,q⟩
 ·obtain ⟨as,ra⟩ := Aa.reads I d x v hd rd rx
  exact SeqAt.compareEq_reads ra rb cd ce (by omega) (AU I q rfl)
 ·unfold Aa at rd re
  obtain ⟨l,ks,rfl,_,_,hb⟩ := rd
  obtain ⟨b,xs,rfl,hbt,_⟩ := re
  cases rx
  cases ry
  obtain ⟨_,hne,vs,kv,o,es',ep,ho,hx,hdt,_⟩ := I.hok l _ hb
  obtain ⟨its,rv,⟨o2,ho2,hc2,n2,hdt2⟩,_⟩ := I.tuple (Ad.of hbt)
  have hne : l ≠ b := by
   intro z
   subst z
   rw [hb] at hbt
   cases hbt
  have hc := hx.1
  obtain ⟨cls,dd,data,sl⟩ := o
  obtain ⟨cls2,dd2,data2,sl2⟩ := o2
  simp only at hc hdt hc2 hdt2
  subst hc hdt hc2 hdt2
  exact SeqAt.rc_eq_decline_or (k := false) ⟨_,ho,rfl⟩ ⟨_,ho2,rfl⟩ (by decide) F.sub_tuple_dict F.slot_dict_eq F.slot_tuple_eq_refl
   (fun _ hq => call_meets F.slot_dict_eq ⟨_,ho,rfl⟩ F.entry_dict_eq (F.args_dict_eq_2 _ _) (N1 l b es' ep its.toArray n2 dd dd2 sl sl2) ⟨ho,ho2,hq⟩)
   (fun _ hq => call_meets F.slot_tuple_eq_refl ⟨_,ho2,rfl⟩ F.entry_tuple_eq (F.args_tuple_eq_2 _ _) (N3 b l es' ep its.toArray n2 dd2 dd sl2 sl) ⟨ho2,ho,hq⟩)
   (fun _ hq => PySem.wpAny_isSame_ref_other hne ho ho2 (by simp) hq) (.inr (by omega)) (AU I q rfl)
end
end L2
namespace MF
open PySem PySem.Spec PyProof.Rows L2
structure TM where
 cs : List (List Int)
 co : List Int
 ds : List Int
 lo : Int
 hi : Int
 st : Int
def TM.d (T : TM) : PyData := .tuple [FD T.cs,AH T.co,AH T.ds,.tuple [.int T.lo,.int T.hi,.int T.st]]
def terms (P : PL) (S : SY) : TM := ⟨caps P S,P.bs.map (·.2),draws P S,P.lo,P.hi,P.st⟩
structure TM.ok (T : TM) : Prop where
 l8 : T.ds.length <= 8
 lc : T.cs.length = T.ds.length
theorem ER {P : PL} {S : SY} {n : Nat} (so : S.ok n) : (terms P S).ok := ⟨by show (draws P S).length <= 8; rw [Cg]; exact so.x8,by show (caps P S).length = (draws P S).length; rw [DI,Cg]⟩
def part {α : Type} (xs : List α) (f l : Nat) : List α := (xs.drop f).take (l + 1 - f)
theorem JX {α : Type} {xs : List α} {f l : Nat} (h : f <= l) (hl : l < xs.length) : (part xs f l).length = l + 1 - f := by
 unfold part; rw [List.length_take,List.length_drop]; omega
theorem FZ {xs : List V} {f l : Nat} (h : f <= l) (hl : l < xs.length) : BE xs (some (f : Int)) (some ((l : Int) + 1)) = part xs f l := by
 have e : ((l : Int) + 1) = ((l + 1 : Nat) : Int) := by omega
 unfold BE part
 rw [e,HT.sIx_nat,HT.sIx_nat,Nat.min_eq_left (by omega),Nat.min_eq_left (by omega)]
theorem Eh {α β : Type} {g : α -> β} {xs : List α} {f l : Nat} : part (xs.map g) f l = (part xs f l).map g := by
 unfold part; rw [<- List.map_drop,<- List.map_take]
theorem Ac.part {p : Addr} {H : Hp} : ∀ {ds : List PyData} {xs : List V},Ac p H ds xs -> ∀ f l,Ac p H (MF.part ds f l) (MF.part xs f l) := by
 have dr : ∀ {ds : List PyData} {xs : List V},Ac p H ds xs -> ∀ f,Ac p H (ds.drop f) (xs.drop f) := by
  intro ds
  induction ds with
  | nil => intro xs r f; unfold Ac at r; subst r; rw [List.drop_nil,List.drop_nil]; exact .nil
  | cons d ds ih =>
   intro xs r f
   have r' := r
   unfold Ac at r
   obtain ⟨x,t,rfl,rx,rt⟩ := r
   cases f with
   | zero => exact r'
   | succ f => exact ih rt f
 have tk : ∀ {ds : List PyData} {xs : List V},Ac p H ds xs -> ∀ f,Ac p H (ds.take f) (xs.take f) := by
  intro ds
  induction ds with
  | nil => intro xs r f; unfold Ac at r; subst r; rw [List.take_nil,List.take_nil]; exact .nil
  | cons d ds ih =>
   intro xs r f
   unfold Ac at r
   obtain ⟨x,t,rfl,rx,rt⟩ := r
   cases f with
   | zero => exact .nil
   | succ f => exact .cons rx (ih rt f)
 intro ds xs r f l
 exact tk (dr r f) _
def most (T : TM) (f l : Nat) : Int := ((part T.cs f l).map List.sum).sum
def Ei (T : TM) (f l : Nat) : Int := (part T.ds f l).sum
def Bv (T : TM) (f l : Nat) : Bool := decide ((if f = 0 then T.st else T.hi) + most T f l < Ei T f l + T.lo)
def Cz (f k : Nat) : List (Nat × Nat) := (List.range k).map fun i => (f,f + i)
def B7 (n k : Nat) : List (Nat × Nat) := ((List.range k).map fun f => Cz f (n - f)).flatten
abbrev pD (q : Nat × Nat) : PyData := .tuple [.int q.1,.int q.2]
theorem N6 {f k : Nat} : Cz f (k + 1) = Cz f k ++ [(f,f + k)] := by unfold Cz; rw [List.range_succ,List.map_append]; rfl
theorem JY {f k : Nat} : (Cz f k).length = k := by unfold Cz; simp
theorem JZ {n k : Nat} : B7 n (k + 1) = B7 n k ++ Cz k (n - k) := by unfold B7; rw [List.range_succ,List.map_append,List.flatten_append]; simp
theorem J0 {n k : Nat} : (B7 n k).length <= n * k := by
 induction k with
 | zero => exact Nat.le_refl _
 | succ k ih => rw [JZ,List.length_append,JY,Nat.mul_succ]; omega
theorem HK {n k : Nat} (h : k <= n) : ∀ q ∈ B7 n k,q.1 <= q.2 /\ q.2 < n := by
 intro q hq
 unfold B7 at hq
 obtain ⟨l,hl,hq⟩ := List.mem_flatten.mp hq
 obtain ⟨f,hf,rfl⟩ := List.mem_map.mp hl
 obtain ⟨i,hi,rfl⟩ := List.mem_map.mp hq
 have := List.mem_range.mp hf
 have := List.mem_range.mp hi
 exact ⟨by show f <= f + i; omega,by show f + i < n; omega⟩
def Dm (T : TM) : List (Nat × Nat) := (B7 T.ds.length T.ds.length).filter fun q => Bv T q.1 q.2
def AO (T : TM) : Option (Nat × Nat) := (Dm T).head?
def DL : Option (Nat × Nat) -> PyData
 | none => .none
 | some q => pD q
end MF
end
section
namespace L2
open PySem PySem.Spec PyProof.Rows
section
variable {X : Cx} {pos : Pos}
def N7 (i j k : Nat) (ta : TA) : TS := fun D σ H => ta σ H fun vs H1 => ∃ v w z,vs = [v,w,z] /\ D.nx (((σ.set i (some v)).set j (some w)).set k (some z)) H1
theorem N8 {i j k : Nat} {x y z : Str} {a b c : Expr} {ta : TA} {px py pz pt : Pos} {kt k2 pt2} (hc : X.calm = true) (hN : X.N.Nodup) (hi : X.N[i]? = some x) (hj : X.N[j]? = some y) (hk : X.N[k]? = some z) (hij : i ≠ j) (hik : i ≠ k) (hjk : j ≠ k)
  (hx : X.env.scope.names.lookup x = some .local) (hy : X.env.scope.names.lookup y = some .local) (hz : X.env.scope.names.lookup z = some .local) (ha : PA X [a,b,c] ta)
  (hw : swappedStores [.Tuple [.Name x px,.Name y py,.Name z pz] kt pt] (.Tuple [a,b,c] k2 pt2) X.env = pure (some [x,y,z]))
  (hs : swapsWithSole [.Tuple [.Name x px,.Name y py,.Name z pz] kt pt] (.Tuple [a,b,c] k2 pt2) pos.line X.env = pure false := by rfl) :
  PS X (.Assign [.Tuple [.Name x px,.Name y py,.Name z pz] kt pt] (.Tuple [a,b,c] k2 pt2) pos) (N7 i j k ta) := by
 intro pins s σ H D I h
 rw [exec_Assign_arm]
 refine wpAny_bind (wpAny_standAt ?_)
 rw [hs]
 refine wpAny_bind (wpAny_pure ?_)
 rw [if_neg (by decide)]
 refine wpAny_bind (Tuple_ (An (ha _ pins s σ H _ I h) fun us s1 ⟨vs,H1,I1,r1,q1⟩ => ?_))
 obtain ⟨v,w,t,e1,q1⟩ := q1
 subst e1
 obtain ⟨u1,u2,u3,rfl,rv,rw',rt⟩ : ∃ u1 u2 u3,us = [u1,u2,u3] /\ Ay v u1 /\ Ay w u2 /\ Ay t u3 := by
  cases r1 with
  | cons p q =>
   cases q with
   | cons p' q' =>
    cases q' with
    | cons p'' q'' =>
     cases q''
     exact ⟨_,_,_,rfl,p,p',p''⟩
 refine wpAny_newObj_type ?_ (by show 3 <= sizeLine; decide)
 have I2 : Ae X pins σ H1 { s1 with heap := s1.heap.push { cls := .type "tuple",data := .seq [u1,u2,u3].toArray } } := I1.kept (t' := s1.toks) fun b o e => Heap.get?_push_of_some _ e
 rw [hw]
 refine wpAny_bind (wpAny_pure ?_)
 show wpAny (model X.prog X.w) X.A (do rule "assign.swapped-stores"; let items <- unpackItems (.ref s1.heap.objs.size) 3 none; assignInOrder [fun v => bindName X.env z v,fun v => bindName X.env y v,fun v => bindName X.env x v] items.reverse; pure Flow.next) _ _ _
 refine wpAny_bind (wpAny_rule (wpAny_bind (unpackItems_tuple (items := #[u1,u2,u3]) (I.ok.hd hc) (IsTup.new s1.heap _) fun h' hx' => ?_)))
 have I3 := I2.kept (h' := h') (t' := s1.toks) fun b o e => hx' b o (Nat.ne_of_lt (Heap.lt_size e)) e
 show wpAny _ _ (assignInOrder [fun v => bindName X.env z v,fun v => bindName X.env y v,fun v => bindName X.env x v] [u3,u2,u1] >>= fun _ => pure Flow.next) _ _ _
 refine wpAny_bind (assignInOrder_cons (wpAny_bindName (Da I3 hN hk (.inl hz) rt (fun s2 I4 => ?_) (.inr hz))))
 refine assignInOrder_cons (wpAny_bindName (Da I4 hN hj (.inl hy) rw' (fun s3 I5 => ?_) (.inr hy)))
 refine assignInOrder_cons (wpAny_bindName (Da I5 hN hi (.inl hx) rv (fun s4 I6 => assignInOrder_nil (wpAny_pure ?_)) (.inr hx)))
 have e : ((σ.set k (some t)).set j (some w)).set i (some v) = ((σ.set i (some v)).set j (some w)).set k (some t) := by
  rw [List.set_comm _ _ (Ne.symm hij),List.set_comm _ _ (Ne.symm hik),List.set_comm _ _ (Ne.symm hjk)]
 rw [e] at I6
 exact ⟨_,H1,I6,q1⟩
end
end L2
end
section
namespace L2
open PySem PySem.Spec PyProof.Rows
section
variable {X : Cx}
end
section
variable {X : Cx}
theorem N9 : OpR X (compareOp .IsNot) (fun x y H Q => ∃ b,x = .bl b /\ y = .bl true /\ Q (.bl (!b)) H) := by
 intro pins s σ H x y v u Q I rx ry h
 obtain ⟨b,rfl,rfl,q⟩ := h
 cases rx
 cases ry
 have e : compareOp .IsNot (.bool b) (.bool true) = (pure (Value.bool (!b)) : Sem Value) := by cases b <;> rfl
 rw [e]
 exact wpAny_pure (AU I q rfl)
end
section
variable {X : Cx}
end
end L2
end
section
namespace L2
open PySem PySem.Spec PyProof.Rows
open AutoSeq1 (wpAny_loadPart')
structure ZA3 (z TI TO i1 i2 i3 l1 l2 l3 : Addr) : Prop where
 TI_z : TI ≠ z
 TO_z : TO ≠ z
 TO_TI : TO ≠ TI
 i1_z : i1 ≠ z
 i1_TI : i1 ≠ TI
 i1_TO : i1 ≠ TO
 i2_z : i2 ≠ z
 i2_TI : i2 ≠ TI
 i2_TO : i2 ≠ TO
 i2_i1 : i2 ≠ i1
 i3_z : i3 ≠ z
 i3_TI : i3 ≠ TI
 i3_TO : i3 ≠ TO
 i3_i1 : i3 ≠ i1
 i3_i2 : i3 ≠ i2
 l1_z : l1 ≠ z
 l1_TO : l1 ≠ TO
 l1_i1 : l1 ≠ i1
 l1_i2 : l1 ≠ i2
 l1_i3 : l1 ≠ i3
 l2_z : l2 ≠ z
 l2_TO : l2 ≠ TO
 l2_i1 : l2 ≠ i1
 l2_i2 : l2 ≠ i2
 l2_i3 : l2 ≠ i3
 l3_z : l3 ≠ z
 l3_TO : l3 ≠ TO
 l3_i1 : l3 ≠ i1
 l3_i2 : l3 ≠ i2
 l3_i3 : l3 ≠ i3
section
variable {P : Program} {w : World} {K : PySem.W.Frag} {A : Around} {E : Value -> Shared -> Prop} {s : Shared} (S1 S2 S3 : A5 P w K)
end
end L2
end
section
namespace L2
open PySem PySem.Spec PyProof.Rows
open AutoSeq1 (wpAny_loadPart')
def Oa (a : Addr) (g g' : Heap) : Prop := ∀ b o,b ≠ a -> g.get? b = some o -> g'.get? b = some o
end L2
end
section
namespace L2
open PySem PySem.Spec PyProof.Rows
section
variable {X : Cx}
def Ob (a b : TI) : TI := fun σ H R => a σ H R \/ b σ H R
theorem J1 {tg it : Expr} {a b : TI} (ha : PI X tg it a) (hb : PI X tg it b) : PI X tg it (Ob a b) := fun pins s σ H R I h => h.elim (fun q => ha pins s σ H R I q) fun q => hb pins s σ H R I q
end
section
variable {X : Cx}
end
section
variable {prog : Program} {w : World} {A : Around} {R : Result -> Shared -> Prop} {s : Shared} {elt tg1 it1 tg2 it2 tg3 it3 : Expr} {ifs1 ifs2 ifs3 : List Expr} {scope : Scope} {pos : Pos} {it acc : Value} {env : Env}
end
def Oc (wi2 : TI) (g2 : TG) (tt2 : TT) (wi3 : TI) (g3 : TG) (tt3 : TT) (te : TE) : St -> List V -> Hp -> (List V -> Hp -> Prop) -> Prop := fun σ ys H N => wi2 σ H fun J H1 =>
 ∃ W : Nat -> Nat -> List V -> Hp -> Prop,(∃ m,W 0 m ys H1) /\ ∀ j m zs H,W j m zs H ->
  (J.stop j H /\ N zs H) \/
  (J.go j H /\ ∃ N2 : List V -> Hp -> Prop, (∀ zs' H', N2 zs' H' -> ∃ m', m' < m /\ W (j + 1) m' zs' H') /\ ∀ x H', J.yld j H x H' -> g2 x σ H' fun σ3 H2 => Keep σ σ3 /\ tt2 σ3 H2 fun b H3 =>
   br b (EQ wi3 g3 tt3 te σ3 zs H3 N2) (N2 zs H3))
theorem Ae.gotList {X : Cx} {pins : List (Addr × Obj)} {σ : St} {H : Hp} {s : Shared} {h' : Heap} {tk n : Nat} {T : Addr} {vs : List V} {us : List Value} (I : Ae X pins σ H s)
  (k : ∀ b o,s.heap.get? b = some o -> h'.get? b = some o) (hT : s.heap.objs.size <= T) (ht : h'.get? T = some { cls := .type "list",data := .seq us.toArray n }) (rv : Ar vs us) (hz : vs.length <= sizeLine) :
  Ae X pins σ (upd H T (.lst vs)) { s with heap := h',toks := tk } := by
 have hfr : H T = none := I.hok.fresh hT
 have nT : ∀ b u,H b = some u -> b ≠ T := fun b u e => Bd e hfr
 refine I.step (g' := s.gens) (d' := s.drawn) (ch := []) (fun b hb => absurd hb (by simp)) (fun b o _ _ hc e _ => k b o e) (fun b o _ _ hc e _ => ⟨o.slots,k b o e⟩)
  (fun b o hc e n => ?_) (fun b o hc e => ⟨o,k b o e⟩) (fun b xs e => by rw [Au (nT b _ e)]; exact e) (fun b o xs e => by rw [Au (nT b _ e)]; exact e) (fun b ps e => ⟨#[],by rw [Au (nT b _ e),e]; simp⟩) (fun m hm => ?_) (fun b u e => ?_) I.bare
 ·rw [Au (Nat.ne_of_lt (Nat.lt_of_lt_of_le (Heap.lt_size e) hT))]; exact n
 ·obtain ⟨o,es,ep,ho,r⟩ := hm
  exact ⟨o,es,ep,k _ o ho,r⟩
 ·by_cases hb : b = T
  ·subst hb
   rw [Ai] at e; cases e
   exact ⟨hz,us,n,rv,ht⟩
  ·rw [Au hb] at e
   exact (I.hok b u e).stay (fun c v hc q => k c v q) (fun c q => by rw [Au (nT c _ q)]; exact q) fun c xs q => by rw [Au (nT c _ q)]; exact q
section
variable {X : Cx}
theorem Od {n : Nat} {acc : Array Value} (h : ItemsOf (fun i v => ∃ t,v = Value.int (0 + (i : Int) * 1) t) acc n) : Ar ((List.range n).map fun i : Nat => V.int i) acc.toList := by
 have go : ∀ (m : Nat) (us : List Value),us.length = m -> (∀ (j : Nat) (v : Value),us[j]? = some v -> ∃ t,v = .int (j : Int) t) -> Ar ((List.range m).map fun i : Nat => V.int i) us := by
  intro m
  induction m with
  | zero => intro us hl _; cases us with
   | nil => exact .nil
   | cons _ _ => cases hl
  | succ m ih =>
   intro us hl hu
   have hne : us ≠ [] := fun e => by rw [e] at hl; cases hl
   have e : us = us.dropLast ++ [us.getLast hne] := (List.dropLast_concat_getLast hne).symm
   have hdl : us.dropLast.length = m := by rw [List.length_dropLast,hl]; rfl
   rw [List.range_succ,List.map_append,e]
   refine (ih us.dropLast hdl fun j v hv => ?_).append (.cons ?_ .nil)
   ·refine hu j v ?_
    rw [e,List.getElem?_append_left (List.getElem?_eq_some_iff.mp hv).1]; exact hv
   ·refine hu m _ ?_
    rw [List.getLast_eq_getElem,List.getElem?_eq_some_iff]
    exact ⟨by omega,by congr 1; omega⟩
 refine go n acc.toList (by simpa using h.1) fun j v hv => ?_
 obtain ⟨t,e⟩ := h.2 j v (by simpa using hv)
 exact ⟨t,by rw [e]; simp⟩
end
def WalkO (J : It) (cap : List (Option Nat)) (g : TG) (tt : TT) (wi2 : TI) (g2 : TG) (tt2 : TT) (wi3 : TI) (g3 : TG) (tt3 : TT) (te : TE) (σ : St) (Q : List V -> Hp -> Prop) (H1 : Hp) : Prop :=
 ∃ W : Nat -> Nat -> List V -> Hp -> Prop,(∃ m,W 0 m [] H1) /\ ∀ i m ys H,W i m ys H ->
  (J.stop i H /\ Q ys H) \/
  (J.go i H /\ ∃ N : List V -> Hp -> Prop, (∀ ys' H', N ys' H' -> ∃ m', m' < m /\ W (i + 1) m' ys' H') /\ ∀ x H', J.yld i H x H' -> g x (AK cap σ) H' fun σ2 H2 => Keep (AK cap σ) σ2 /\ tt σ2 H2 fun b H3 =>
   br b (Oc wi2 g2 tt2 wi3 g3 tt3 te σ2 ys H3 N) (N ys H3))
end L2
end
section
namespace L2
open PySem PySem.Spec PyProof.Rows
def C2 (i j k : Int) : List Int := (List.range (C0 i j k)).map fun t : Nat => i + (t : Int) * k
theorem Oe {n : Nat} {i k : Int} {acc : Array Value} (h : ItemsOf (fun t v => ∃ u,v = Value.int (i + (t : Int) * k) u) acc n) : Ar (((List.range n).map fun t : Nat => i + (t : Int) * k).map V.int) acc.toList := by
 have go : ∀ (m : Nat) (us : List Value),us.length = m -> (∀ (j : Nat) (v : Value),us[j]? = some v -> ∃ t,v = .int (i + (j : Int) * k) t) -> Ar (((List.range m).map fun t : Nat => i + (t : Int) * k).map V.int) us := by
  intro m
  induction m with
  | zero => intro us hl _; cases us with
   | nil => exact .nil
   | cons _ _ => cases hl
  | succ m ih =>
   intro us hl hu
   have hne : us ≠ [] := fun e => by rw [e] at hl; cases hl
   have e : us = us.dropLast ++ [us.getLast hne] := (List.dropLast_concat_getLast hne).symm
   have hdl : us.dropLast.length = m := by rw [List.length_dropLast,hl]; rfl
   rw [List.range_succ,List.map_append,List.map_append,e]
   refine (ih us.dropLast hdl fun j v hv => ?_).append (.cons ?_ .nil)
   ·refine hu j v ?_
    rw [e,List.getElem?_append_left (List.getElem?_eq_some_iff.mp hv).1]; exact hv
   ·refine hu m _ ?_
    rw [List.getLast_eq_getElem,List.getElem?_eq_some_iff]
    exact ⟨by omega,by congr 1; omega⟩
 refine go n acc.toList (by simpa using h.1) fun j v hv => ?_
 exact h.2 j v (by simpa using hv)
section
variable {X : Cx}
def Of (ta : TA) : TE := fun σ H Q => ta σ H fun vs H1 => ∃ i j k : Int,vs = [.int i,.int j,.int k] /\ (-1000 <= i /\ i <= 1000 /\ -1000 <= j /\ j <= 1000 /\ 1 <= k /\ k <= 1000) /\ ∀ p,H1 p = none -> Q (.ref p) (upd H1 p (.lst ((C2 i j k).map V.int)))
theorem Og {a b c : Expr} {ta : TA} {p pos p2 pos2 : Pos} (hc : X.calm = true) (hg0 : Gl X "list") (hm0 : X.mg "list" = none) (hg : Gl X "range") (hm : X.mg "range" = none) (ha : PA X [a,b,c] ta)
  (hs0 : starEach [.Call (.Name "range" p2) [a,b,c] [] pos2] X.env = [(false,eval (.Call (.Name "range" p2) [a,b,c] [] pos2) X.env)] := by rfl) (hs : starEach [a,b,c] X.env = (false,eval a X.env) :: starEach [b,c] X.env := by rfl) (hs2 : starEach [b,c] X.env = [(false,eval b X.env),(false,eval c X.env)] := by rfl) :
  PE X (.Call (.Name "list" p) [.Call (.Name "range" p2) [a,b,c] [] pos2] [] pos) (Of ta) := by
 intro pins s σ H Q I h
 refine Call_ (Cb I hg0 hm0 Np (PyProof.Rows.callWith_type1 (by
  rw [hs0]
  refine Calls.spliced_cons (Call_ (Cb I hg hm boot_range (PyProof.Rows.callWith_type1 (An (ha pos2 pins s σ H _ I h) fun us s1 ⟨vs,H1,I1,r1,q1⟩ => ?_) hs (by rw [hs2]; rfl))))
  obtain ⟨i,j,k,e,⟨q1,q2,q3,q4,q5,q6⟩,q⟩ := q1
  subst e
  rcases r1 with _ | ⟨r,r1⟩
  rcases r1 with _ | ⟨r',r1⟩
  rcases r1 with _ | ⟨r'',r1⟩
  cases r1
  obtain ⟨t,rfl⟩ := r
  obtain ⟨t',rfl⟩ := r'
  obtain ⟨t'',rfl⟩ := r''
  have hk : k.natAbs.log2 < 30 := by
   by_cases z : k.natAbs = 0
   ·omega
   ·exact (Nat.log2_lt z).mpr (show k.natAbs < 2 ^ 30 by omega)
  have ndv : Builtin.divisionGoesByPylong (j - i) k = false := by
   unfold Builtin.divisionGoesByPylong
   dsimp only
   rw [show (decide ((if (k == 0) = true then 0 else k.natAbs.log2 / 30 + 1) > 300)) = false from decide_eq_false (by
    split
    ·omega
    ·rw [Nat.div_eq_of_lt hk]; omega),Bool.false_and]
  refine call_range_3 (by omega) (Calls.spliced_nil ?_) (.inl ndv)
  have hsz : (s1.heap.push { cls := .type "range",data := .fields #[.int i t,.int j t',.int k t''] }).objs.size = s1.heap.objs.size + 1 := Heap.size_push ..
  obtain ⟨b0,b1⟩ := JJ q5 q1 q4
  refine call_list_range (n := C0 i j k) (I.ok.hd hc) (IsRange.new ..) (NF q5 q6 q1 q2 q3 q4) (by unfold C0; omega) (by unfold C0; omega) fun h' tk acc' c' hk hS hacc => ?_
  have hv := Oe hacc
  have I2 := I1.gotList (tk := tk) (T := s1.heap.objs.size + 1) (us := acc'.toList) (n := c') (fun b o e => hk b o (Heap.get?_push_of_some _ e)) (Nat.le_succ _) (by rw [<- hsz]; simpa using hS) hv (by
   rw [List.length_map,List.length_map,List.length_range]
   have : (3000 : Nat) <= sizeLine := by decide
   unfold C0; omega)
  refine ⟨.ref (s1.heap.objs.size + 1),_,I2,?_,q _ (I1.hok.fresh (Nat.le_succ _))⟩
  show Ay (.ref (s1.heap.objs.size + 1)) (.ref _)
  rw [<- hsz]; rfl) hs0 rfl))
end
theorem Oh {i j k : Int} : ((C2 i j k).map V.int).all Cw = true := by
 rw [List.all_eq_true]
 intro x hx
 obtain ⟨a,_,rfl⟩ := List.mem_map.mp hx
 rfl
end L2
namespace MF
open PySem PySem.Spec PyProof.Rows L2
theorem Oi {f e : Int} {h : Nat} (he : 1 <= e) (h8 : h < 8) : By (.int (h : Int)) ((C2 f 8 e).map V.int) = decide (¬ ((h : Int) < f \/ ((h : Int) - f) % e ≠ 0)) := by
 unfold By C2
 rw [List.map_map,List.any_map]
 have key : ((List.range (C0 f 8 e)).any ((fun y => CF y (V.int (h : Int))) ∘ V.int ∘ fun t : Nat => f + (t : Int) * e)) = true ↔ ¬ ((h : Int) < f \/ ((h : Int) - f) % e ≠ 0) := by
  rw [List.any_eq_true]
  constructor
  ·rintro ⟨t,ht,q⟩
   have q' : (f + (t : Int) * e == (h : Int)) = true := q
   have q' : f + (t : Int) * e = (h : Int) := by simpa using q'
   have h3 : 0 <= (t : Int) * e := Int.mul_nonneg (by omega) (by omega)
   rintro (c | c)
   ·omega
   ·apply c
    rw [show (h : Int) - f = (t : Int) * e by omega]
    exact Int.mul_emod_left _ _
  ·intro c
   have c1 : ¬ (h : Int) < f := fun z => c (.inl z)
   have c2 : ((h : Int) - f) % e = 0 := by
    by_cases z : ((h : Int) - f) % e = 0
    ·exact z
    ·exact absurd (.inr z) c
   have hd : ((h : Int) - f) = ((h : Int) - f) / e * e := by
    have := Int.emod_add_mul_ediv ((h : Int) - f) e
    rw [c2] at this
    rw [Int.mul_comm]; omega
   have h0 : 0 <= ((h : Int) - f) / e := Int.ediv_nonneg (by omega) (by omega)
   refine ⟨(((h : Int) - f) / e).toNat,List.mem_range.mpr ((NM (n := 8) he).mpr ?_),?_⟩
   ·rw [Int.toNat_of_nonneg h0]
    show f + _ < (8 : Int)
    omega
   ·show (f + ((((h : Int) - f) / e).toNat : Int) * e == (h : Int)) = true
    rw [Int.toNat_of_nonneg h0,beq_iff_eq]
    omega
 cases z : ((List.range (C0 f 8 e)).any ((fun y => CF y (V.int (h : Int))) ∘ V.int ∘ fun t : Nat => f + (t : Int) * e)) with
 | true => exact (decide_eq_true (key.mp z)).symm
 | false => exact (decide_eq_false fun c => by rw [key.mpr c] at z; cases z).symm
end MF
end
section
namespace L2
open PySem PySem.Spec PyProof.Rows
section
variable {X : Cx}
end
end L2
end
section
namespace L2
open PySem PySem.Spec PyProof.Rows
variable {k : Nat} {X : Cx}
open AutoSeq1 (wpAny_loadPart')
section
variable {P : Program} {w : World} {K : PySem.W.Frag} {A : Around} {E : Value -> Shared -> Prop} {s : Shared} (S1 S2 : A5 P w K)
theorem Oj {z TI TO i1 i2 l1 l2 : Addr} {xs1 xs2 : Array Value} {a1 a2 : Value} {Q : Fin -> Shared -> Prop} (hh : A.handled = none) (D : D5 z TI TO i1 i2 l1 l2) (hz : D3 s.heap z TI TO) (hTI : Ba s.heap TI (.ref i1) (.ref i2)) (hTO : Ba s.heap TO a1 a2) (h1 : Dr S1 i1 l1 xs1 k s.heap) (h2 : Dr S2 i2 l2 xs2 k s.heap) (hl1 : k < xs1.size) (hend : k = xs2.size)
  (hE : ∀ h' tk e,(∀ c o,c ≠ z -> c ≠ TO -> c ≠ i1 -> c ≠ i2 -> s.heap.get? c = some o -> h'.get? c = some o) -> (∃ o,h'.get? e = some o /\ o.cls = .type "StopIteration") -> E (.ref e) { s with heap := h',toks := tk }) :
  wpAny (model P w) A (Builtin.«zip.__next__» ⟨[.ref z],[]⟩) Q E s := by
 have D1 := fun (A : Around) (hh : A.handled = none) => S1.draws A hh i1 l1 D.l1_i1 xs1
 have D2 := fun (A : Around) (hh : A.handled = none) => S2.draws A hh i2 l2 D.l2_i2 xs2
 obtain ⟨f0',f1',hz',hf0',hf1'⟩ := id hz
 show wpAny _ _ (field (.ref z) 2 >>= _) _ _ _; refine wpAny_bind (wpAny_field hz' rfl (x := .bool false) rfl ?_)
 show wpAny _ _ (field (.ref z) 3 >>= _) _ _ _; refine wpAny_bind (wpAny_field hz' rfl (x := .ref TI) rfl ?_)
 refine wpAny_bind (wpAny_seqItems hTI rfl ?_); show wpAny _ _ (Builtin.SmallTypes.ownedTupleIsFree (.ref z) >>= _) _ _ _
 refine wpAny_bind (Hu hz (fun f0 f1 hz => ?_) fun g0 T f1 f2 hzs hz0 hf2 hs0 => ?_)
 ·simp only [if_true]
  refine wpAny_bind (wpAny_rule ?_); refine wpAny_bind (wpAny_field hz rfl (x := .ref TO) rfl ?_)
  refine wpAny_bind (wpAny_setField_rec hz (by simp) fun g0 hz0 hs0 => ?_); replace hz0 : B6 g0 z TI TO .ellipsis f1 := hz0
  refine wpAny_bind ?_; simp only [List.zipIdx_cons,List.zipIdx_nil,List.forIn_cons,List.forIn_nil]
  refine wpAny_bind (wpAny_bind (wpAny_onRaise ?_)); show wpAny _ _ (Builtin.SmallTypes.nextOf (.ref i1) >>= _) _ _ _
  refine wpAny_bind ((D1 _ hh).item k _ _ _ hl1 (Dr.ext h1 hs0.extBut D.i1_z D.l1_z) fun y1 g1 tk1 hy1 hd1 hs1 => wpAny_pure ?_)
  have hd1' : Dr S1 i1 l1 xs1 (k + 1) g1 := hd1
  have hT1 : Ba g1 TO a1 a2 := (hs1.extBut _ _ D.i1_TO.symm (hs0.extBut _ _ D.TO_z hTO))
  refine wpAny_bind (wpAny_seqItems hT1 rfl ?_); refine wpAny_bind (Hv hT1 fun g2 hU1 hs2 => ?_)
  replace hU1 : Ba g2 TO y1 a2 := hU1
  refine wpAny_bind (wpAny_letGo (wpAny_pure ?_))
  refine wpAny_bind (wpAny_bind (wpAny_onRaise ?_)); show wpAny _ _ (Builtin.SmallTypes.nextOf (.ref i2) >>= _) _ _ _
  have hcur := (Dr.ext (Dr.ext (Dr.ext h2 hs0.extBut D.i2_z D.l2_z) hs1.extBut D.i2_i1 D.l2_i1) hs2.extBut D.i2_TO D.l2_TO)
  subst hend
  refine wpAny_bind ((D2 _ hh).done _ _ _ hcur fun ge e hse he => ?_)
  obtain ⟨oe,hoe,hce⟩ := he
  have hze : B6 ge z TI TO .ellipsis f1 := hse _ _ D.i2_z.symm (hs2.extBut _ _ D.TO_z.symm (hs1.extBut _ _ D.i1_z.symm hz0))
  have hez : e ≠ z := fun x => by subst x; rw [hze] at hoe; cases hoe; simp at hce
  exact wpAny_setField_rec hze (by simp) fun gf _ hsf => hE gf _ e (fun c o cz cTO ci1 ci2 x => hsf.extBut _ _ cz (hse _ _ ci2 (hs2.extBut _ _ cTO (hs1.extBut _ _ ci1 (hs0.extBut _ _ cz x))))) ⟨oe,hsf.extBut _ _ hez hoe,hce⟩
 ·simp only [Bool.false_eq_true,if_false]
  refine wpAny_bind ?_; simp only [<- Array.forIn_toList,List.forIn_cons,List.forIn_nil]
  refine wpAny_bind (wpAny_bind (wpAny_holding ?_)); show wpAny _ _ (Builtin.SmallTypes.nextOf (.ref i1) >>= _) _ _ _
  refine wpAny_bind ((D1 _ hh).item k _ _ _ hl1 (Dr.ext h1 hs0.extBut D.i1_z D.l1_z) fun y1 g1 tk1 hy1 hd1 hs1 => wpAny_pure ?_)
  have hd1' : Dr S1 i1 l1 xs1 (k + 1) g1 := hd1
  refine wpAny_pure ?_
  refine wpAny_bind (wpAny_bind (wpAny_holding ?_)); show wpAny _ _ (Builtin.SmallTypes.nextOf (.ref i2) >>= _) _ _ _
  have hcur := (Dr.ext (Dr.ext h2 hs0.extBut D.i2_z D.l2_z) hs1.extBut D.i2_i1 D.l2_i1)
  subst hend
  refine wpAny_bind ((D2 _ hh).done _ _ _ hcur fun ge e hse he => ?_)
  obtain ⟨oe,hoe,hce⟩ := he
  exact hE ge _ e (fun c o cz cTO ci1 ci2 x => hse _ _ ci2 (hs1.extBut _ _ ci1 (hs0.extBut _ _ cz x))) ⟨oe,hoe,hce⟩
end
def F0 {P : Program} {w : World} {K : PySem.W.Frag} (S1 S2 : A5 P w K) (a b : Addr) : It :=
 ⟨fun i H => ∃ xs ys x y,S1.Sq H a xs /\ S2.Sq H b ys /\ xs[i]? = some x /\ ys[i]? = some y,fun i H v H' => ∃ T,v = .ref T /\ H T = none /\ ∀ xs ys x y,S1.Sq H a xs -> S2.Sq H b ys -> xs[i]? = some x -> ys[i]? = some y -> H' = upd H T (.tup [x,y]),
  fun i H => ∃ xs ys,S1.Sq H a xs /\ S2.Sq H b ys /\ i < xs.length /\ ys.length = i⟩
theorem Ol {P : Program} {w : World} {K : PySem.W.Frag} (S1 S2 : A5 P w K) {es : List Expr} {k : Nat} {pos : Pos} (z TI TO i1 i2 l1 l2 : Addr) (D : D5 z TI TO i1 i2 l1 l2) :
  Cr P w K (.Tuple es k pos) (F0 S1 S2 l1 l2) [z,TI,TO,i1,i2] z (fun i h => IsZip h z TI TO .none /\ Ba h TI (.ref i1) (.ref i2) /\ (∃ a b,Ba h TO a b) /\ S1.It h i1 l1 i /\ S2.It h i2 l2 i) where
 mem := by simp
 obj := fun i h st b hb => by
  obtain ⟨hz,hTI,⟨a,b',hTO⟩,h1,h2⟩ := st
  simp only [List.mem_cons,List.not_mem_nil,or_false] at hb
  rcases hb with e | e | e | e | e <;> rw [e]
  ·exact ⟨_,hz,fun v q => by have q' : Data.fields _ = Data.cell v := q; cases q'⟩
  ·exact ⟨_,hTI,fun v q => by have q' : Data.seq _ _ = Data.cell v := q; cases q'⟩
  ·exact ⟨_,hTO,fun v q => by have q' : Data.seq _ _ = Data.cell v := q; cases q'⟩
  ·exact S1.ito h1
  ·exact S2.ito h2
 keep := fun i h h' st kk => by
  obtain ⟨hz,hTI,⟨a,b',hTO⟩,h1,h2⟩ := st
  exact ⟨kk z (by simp) _ hz,kk TI (by simp) _ hTI,⟨a,b',kk TO (by simp) _ hTO⟩,S1.itk h1 fun o q => kk i1 (by simp) o q,S2.itk h2 fun o q => kk i2 (by simp) o q⟩
 item := by
  intro X hP hw hK hc i pins s σ H E I hf st hg
  subst hP hw
  obtain ⟨xs,ys,x,y,hq1,hq2,hx,hy⟩ := hg
  obtain ⟨its1,rv1,is1,hz1⟩ := S1.get hK I hq1
  obtain ⟨its2,rv2,is2,hz2⟩ := S2.get hK I hq2
  obtain ⟨u1,hu1,ru1⟩ := rv1.get hx
  obtain ⟨u2,hu2,ru2⟩ := rv2.get hy
  obtain ⟨hz,hTI,⟨a,b',hTO⟩,h1,h2⟩ := st
  have hh := I.ok.hd hc
  have hT : s.TypeIs (.ref z) "zip" := ⟨_,hz,rfl⟩
  unfold pyNext
  refine wpAny_bind (wpAny_attempt (wpAny_callSpecial?_slot (name := Str.ofString "__next__") hT F.slot_zip_next (wpAny_call_entry F.slot_zip_next hT F.entry_zip_next
   (Jv S1 S2 (x1 := u1) (x2 := u2) hh D ⟨_,_,hz,.inl rfl,.inl rfl⟩ hTI hTO ⟨h1,is1⟩ ⟨h2,is2⟩ (by simpa using hu1) (by simpa using hu2) fun h' tk _ az a2 a3 a4 a5 a6 hk => wpAny_pure ⟨_,rfl,?_⟩) (F.args_zip_next_1 _))))
  obtain ⟨b1,b2,a2⟩ := a2
  refine wpAny_letOwnedTupleGo_zip (az (.inr hz)) fun h'' z1 sb => ?_
  have kk : ∀ b o,b ∉ [z,TI,TO,i1,i2] -> s.heap.get? b = some o -> h''.get? b = some o := fun b o hb q => sb.extBut b o (fun e => hb (by simp [e])) (hk b o (fun e => hb (by simp [e])) (fun e => hb (by simp [e])) (fun e => hb (by simp [e])) (fun e => hb (by simp [e])) q)
  have zl : z < s.heap.objs.size := Heap.lt_size hz
  have ht : IsTup h'' s.heap.objs.size [u1,u2].toArray := ⟨_,sb.extBut _ _ (Nat.ne_of_gt zl) a5,rfl,_,rfl⟩
  exact ⟨.ref s.heap.objs.size,upd H s.heap.objs.size (.tup [x,y]),I.yielded (tk := tk) (fun b hb => hf b hb) kk (Nat.le_refl _) ht (.cons ru1 (.cons ru2 .nil)) (by show 2 <= sizeLine; decide),rfl,
   ⟨_, rfl, I.hok.fresh (Nat.le_refl _), fun xs' ys' x' y' e1 e2 e3 e4 => by
    rw [S1.inj hK I e1 hq1,hx] at e3; rw [S2.inj hK I e2 hq2,hy] at e4; cases e3; cases e4; rfl⟩,
   ⟨z1, sb.extBut _ _ D.TI_z (hk _ _ D.TI_z D.TO_TI.symm D.i1_TI.symm D.i2_TI.symm hTI), ⟨_, _, sb.extBut _ _ D.TO_z a2⟩, S1.itk a3.1 fun o q => sb.extBut _ o D.i1_z q, S2.itk a4.1 fun o q => sb.extBut _ o D.i2_z q⟩, fun b hb => by
    have hbt : b < s.heap.objs.size := by
     simp only [List.mem_cons,List.not_mem_nil,or_false] at hb
     rcases hb with e | e | e | e | e <;> rw [e]
     ·exact zl
     ·exact Heap.lt_size hTI
     ·exact Heap.lt_size hTO
     ·obtain ⟨o,q,_⟩ := S1.ito h1; exact Heap.lt_size q
     ·obtain ⟨o,q,_⟩ := S2.ito h2; exact Heap.lt_size q
    rw [Au (Nat.ne_of_lt hbt)]; exact (hf b hb).1⟩
 done := by
  intro X hP hw hK hc i pins s σ H E I hf st hg
  subst hP hw
  obtain ⟨xs,ys,hq1,hq2,hlt,hend⟩ := hg
  obtain ⟨its1,rv1,is1,hz1⟩ := S1.get hK I hq1
  obtain ⟨its2,rv2,is2,hz2⟩ := S2.get hK I hq2
  obtain ⟨hz,hTI,⟨a,b',hTO⟩,h1,h2⟩ := st
  have hh := I.ok.hd hc
  have hT : s.TypeIs (.ref z) "zip" := ⟨_,hz,rfl⟩
  have e1 := rv1.length
  have e2 := rv2.length
  unfold pyNext
  refine wpAny_bind (wpAny_attempt (wpAny_callSpecial?_slot (name := Str.ofString "__next__") hT F.slot_zip_next (wpAny_call_entry F.slot_zip_next hT F.entry_zip_next
   (Oj S1 S2 hh D ⟨_,_,hz,.inl rfl,.inl rfl⟩ hTI hTO ⟨h1,is1⟩ ⟨h2,is2⟩ (by simp; omega) (by simp; omega) fun h' tk e hk he => ?_) (F.args_zip_next_1 _))))
  obtain ⟨o,ho,hco⟩ := he
  refine wpAny_bind (wpAny_isInstance (T := "StopIteration") (b := true) ⟨o,ho,hco⟩ isSubtype_stop ?_)
  exact wpAny_pure ⟨rfl,I.ended (wr := [z,TI,TO,i1,i2]) (tk := tk) (fun b hb => hf b hb) fun b o hb q => hk b o (fun e => hb (by simp [e])) (fun e => hb (by simp [e])) (fun e => hb (by simp [e])) (fun e => hb (by simp [e])) q⟩
 self := fun _ _ _ _ _ st h => wpAny_pyIter_zip st.1 h
def J2 {P : Program} {w : World} {K : PySem.W.Frag} (S1 S2 : A5 P w K) (ta : TA) : TI := fun σ H R => ta σ H fun vs H1 => ∃ a b,vs = [.ref a,.ref b] /\ (∃ xs,S1.Sq H1 a xs) /\ (∃ ys,S2.Sq H1 b ys) /\ R (F0 S1 S2 a b) H1
theorem Om {es : List Expr} {p pos pos' : Pos} {e1 e2 : Expr} {ta : TA} (S1 S2 : A5 X.prog X.w X.K) (zn : D6 S1 S2) (hg : Gl X "zip") (hm : X.mg "zip" = none) (ha : PA X [e1,e2] ta)
  (hs : starEach [e1,e2] X.env = [(false,eval e1 X.env),(false,eval e2 X.env)]) (hs2 : starEach [e2] X.env = [(false,eval e2 X.env)]) : PI X (.Tuple es k pos') (.Call (.Name "zip" p) [e1,e2] [] pos) (J2 S1 S2 ta) := by
 intro pins s σ H R I h
 refine An (Jw S1 S2 zn (R := fun l1 l2 H1 => R (F0 S1 S2 l1 l2) H1) hg hm ha hs hs2 I h) fun v s1 ⟨l1,l2,H1,m,e,q,I1,gz,gI,gO,g1,g2,h1,h2,fr,_⟩ => ?_
 subst e
 exact wpAny_pyIter_zip gz ⟨_,[m + 4,m + 2,m + 3,m,m + 1],_,_,H1,rfl,I1,Ol S1 S2 _ _ _ _ _ l1 l2 (Jy h1 h2),⟨gz,gI,⟨_,_,gO⟩,g1,g2⟩,fun b hb => fr b (by
  simp only [List.mem_cons,List.not_mem_nil,or_false] at hb
  rcases hb with e | e | e | e | e <;> rw [e] <;> first | exact Nat.le_refl _ | exact Nat.le_add_right _ _),q⟩
theorem On (P : Program) (w : World) (K : PySem.W.Frag) {es : List Expr} {k : Nat} {p pos pos' : Pos} {e1 e2 : Expr} {ta : TA} (hg : Gl X "zip") (hm : X.mg "zip" = none) (ha : PA X [e1,e2] ta) (hP : X.prog = P := by rfl) (hw : X.w = w := by rfl) (hK : X.K = K := by rfl)
  (hs : starEach [e1,e2] X.env = [(false,eval e1 X.env),(false,eval e2 X.env)] := by rfl) (hs2 : starEach [e2] X.env = [(false,eval e2 X.env)] := by rfl) :
  PI X (.Tuple es k pos') (.Call (.Name "zip" p) [e1,e2] [] pos) (J2 (BP P w K) (BP P w K) ta) := by subst hP hw hK; exact Om _ _ (Jx _ _ _) hg hm ha hs hs2
theorem Oo {P : Program} {w : World} {K : PySem.W.Frag} {S1 S2 : A5 P w K} {a b : Addr} {xs ys : List V} {cap : List (Option Nat)} {g : TG} {tt : TT} {te : TE} {σ : L2.St} {Q : List V -> Hp -> Prop} {H : Hp} (Pv : Nat -> List V -> Hp -> Prop) (hn : ys.length <= 100000) (he : ys.length < xs.length) (h0 : Pv 0 [] H) (hz : ∀ i ys H,Pv i ys H -> ys.length <= i)
  (hl : ∀ i zs H,Pv i zs H -> S1.Sq H a xs /\ S2.Sq H b ys)
  (hs : ∀ i x y zs H T,xs[i]? = some x -> ys[i]? = some y -> Pv i zs H -> H T = none -> g (.ref T) (AK cap σ) (upd H T (.tup [x,y])) fun σ2 H2 => Keep (AK cap σ) σ2 /\ tt σ2 H2 fun b H3 => br b (te σ2 H3 fun y H4 => Pv (i + 1) (zs ++ [y]) H4) (Pv (i + 1) zs H3))
  (hd : ∀ zs H,Pv ys.length zs H -> Q zs H) : Dj (F0 S1 S2 a b) cap g tt te σ Q H :=
 DC ys.length Pv hn h0 hz (fun i zs H hi p => by
  obtain ⟨q1,q2⟩ := hl i zs H p
  have hx : i < xs.length := by omega
  refine ⟨⟨xs,ys,xs[i],ys[i],q1,q2,by simp [hx],by simp [hi]⟩,fun v H' ⟨T,e,n,y⟩ => ?_⟩
  subst e
  rw [y xs ys xs[i] ys[i] q1 q2 (by simp [hx]) (by simp [hi])]
  exact hs i xs[i] ys[i] zs H T (by simp [hx]) (by simp [hi]) p n)
  fun zs H p => ⟨⟨xs,ys,(hl _ zs H p).1,(hl _ zs H p).2,he,rfl⟩,hd zs H p⟩
end L2
end
section
namespace L2
open PySem PySem.Spec PyProof.Rows
section
variable {X : Cx}
section
open HT
variable {prog : Program} {w : World} {A : Around} {E : Value -> Shared -> Prop} {s : Shared}
end
end
structure Op (P : Program) (w : World) (outer : List Env) (H : Hp) (s : Shared) (H' : Hp) (C e : Addr) (s' : Shared) : Prop where
 os : s'.os = s.os
 bare : AllBare s'.gens
 un : Un (Bx outer) [] H H' s.heap s'.heap
 fly : ∃ B t,Heap.FlyingW B outer e (.ref C) t s'.heap /\ (∀ b o,s.heap.get? b = some o -> H b = none -> b ∉ Bx outer -> B.get? b = some o) /\
  (∀ b o,s.heap.get? b = some o -> b ∉ Bx outer -> ∃ o',B.get? b = some o') /\ HOk P w H' B
def J3 (P : Program) (w : World) : Ce := fun outer H s E v s' => ∃ C e H',v = .ref e /\ Op P w outer H s H' C e s' /\ E (.ref C) none H'
structure IsDef (X : Cx) (E : XK) : Prop where
 stk : X.stack = X.env :: X.outer
 fr : X.env.frame = some X.env.locals
 ex : X.ex = []
 xe : ∀ e s',wpAny (model X.prog X.w) X.A (leaving X.env e) (fun _ s'' => J3 X.prog X.w X.outer X.H₀ X.s₀ E e s'') (fun _ _ => False) s' -> X.xe e s'
section
variable {X : Cx} {pins : List (Addr × Obj)} {σ : St} {H H' : Hp} {s s' : Shared} {C e : Addr} {E : XK}
end
end L2
end
section
namespace L2
open PySem PySem.Spec PyProof.Rows PySem.W Builtin Builtin.ObjectAttr Builtin.Getset_descriptor
structure ExcCls (K : Frag) (D : Addr) : Prop where
 ga : findIn K (.ref D) "__getattribute__" = some (some (.builtin "BaseException.__getattribute__"))
 gt : findIn K (.ref D) "__getattr__" = some none
 cl : (clsIn K D).isSome = true
 ca : findIn K (.ref D) "__class__" = some (some (.builtin "object.__class__"))
 cn : specialIn K (.builtin "object.__class__") "__get__" = some (some (.builtin "getset_descriptor.__get__"))
 tk : takesIn K (.builtin "object.__class__") = some true
 ob : mroIn K D (.type "object") = some true
 bx : mroIn K D (.type "BaseException") = some true
section
variable {prog : Program} {w : World} {A : Around} {E : Value -> Shared -> Prop} {s : Shared} {K : Frag} {x D : Addr}
end
section
variable {X : Cx} {pins : List (Addr × Obj)} {σ : St} {H : Hp} {s : Shared} {A : Around} {E : Value -> Shared -> Prop} {Q : Value -> Shared -> Prop} {c : Value} {b : Bool} {a D : Addr}
end
end L2
end
section
namespace L2
open PySem PySem.Spec PyProof.Rows
section
variable {X : Cx} {E : XK} {st : Stmt} {rest : List Stmt} {t : TS}
end
section
variable {P : Program} {w : World} {K : PySem.W.Frag} {mg : Str -> Option Value} {base : Heap}
structure FnE (P : Program) (w : World) (K : PySem.W.Frag) (mg : Str -> Option Value) (base : Heap) (n : Nat) (x : Str) (ps : List Str) (sp : Sp) : Prop where
 ex : ∃ (f : Addr) (fd : FuncData),Cv P w K mg base (J3 P w) n f fd ps sp /\ mg x = some (.ref f) /\ PySem.W.keepIn K (.ref f) = true /\ Binds K fd ps []
end
section
variable {X : Cx} {pins : List (Addr × Obj)} {σ : St} {H : Hp} {s s' : Shared} {scope : Scope} {N' : List Str} {cap : List (Option Nat)} {A : Around} {outer : List Env} {qual : Str} {f : Addr} {cd : Value} {E : XK}
end
section
variable {X : Cx} {pins : List (Addr × Obj)} {σ : St} {H H' : Hp} {s s' : Shared}
end
structure Oq (k : Nat) (A : Around) : Prop where
 dp : A.depth + 3 * k + 5 < recursionLimit
 un : A.units + 16 * k + 200 < cLine
 gd : A.guards = some []
section
variable {P : Program} {w : World} {K : PySem.W.Frag} {mg : Str -> Option Value} {base : Heap}
structure FnQ (P : Program) (w : World) (K : PySem.W.Frag) (mg : Str -> Option Value) (base : Heap) (n : Nat) (x : Str) (ps : List Str) (sp : Sp) : Prop where
 ex : ∃ (f : Addr) (fd : FuncData),(∀ (A : Around) (outer : List Env) (s : Shared) (H : Hp) (args : Args) (us : List Value) (vs : List V) (Q : VK),Oq n A -> DX P w K mg base A outer s H -> BindsTo s fd args (ps.zip us) -> Ar vs us -> sp vs H Q E0 ->
  codeAny (model P w) A (.call (.ref f) args) (CR CX0 outer P w H s Q E0) s) /\ (∀ vs H Q E,sp vs H Q E -> vs.length = ps.length) /\ mg x = some (.ref f) /\ PySem.W.keepIn K (.ref f) = true /\ Binds K fd ps []
structure FnS (P : Program) (w : World) (K : PySem.W.Frag) (mg : Str -> Option Value) (base : Heap) (n : Nat) (x : Str) (ps : List Str) (sp : List Env -> Shared -> Sp) : Prop where
 ex : ∃ (f : Addr) (fd : FuncData),(∀ (A : Around) (outer : List Env) (s : Shared) (H : Hp) (args : Args) (us : List Value) (vs : List V) (Q : VK),Bf n A -> DX P w K mg base A outer s H -> BindsTo s fd args (ps.zip us) -> Ar vs us -> sp outer s vs H Q E0 ->
  codeAny (model P w) A (.call (.ref f) args) (CR CX0 outer P w H s Q E0) s) /\ mg x = some (.ref f) /\ PySem.W.keepIn K (.ref f) = true /\ Binds K fd ps []
end
section
variable {X : Cx} {H : Hp} {f : Addr} {Q : VK} {W : Addr -> Str -> Prop}
end
section
variable {X : Cx} {H : Hp} {f M : Addr} {Q : VK} {W : Addr -> Str -> Prop} {s1 : Shared}
end
section
variable {X : Cx} {pins : List (Addr × Obj)} {σ : St} {H : Hp} {s : Shared} {scope : Scope} {N' : List Str} {cap : List (Option Nat)} {P c : Addr} {ql : Str} {params : Arguments} {body : Expr} {pos : Pos}
end
section
variable {X : Cx} {scope : Scope} {N' : List Str} {cap : List (Option Nat)} {P c : Addr} {ql : Str} {params : Arguments} {body : Expr} {lpos p pos : Pos} {W : Addr -> Str -> Prop} {k : Nat} {te : XK -> TE}
end
section
variable {X : Cx}
end
def J4 : List Str := ["plant","story","firing","hour","boiler","prices","way","set","tanks","pump","feeding","readings","start","shifts","book","amount","deed","line","text"]
def J5 (K : PySem.W.Frag) (M : Addr) (ds : List Addr) (i : Nat) : Bool :=
 (PySem.W.findIn K (.ref (ds.getD i 0)) "__getattribute__" == some (some (.builtin "BaseException.__getattribute__"))) && (PySem.W.findIn K (.ref (ds.getD i 0)) "__getattr__" == some none) && (PySem.W.clsIn K (ds.getD i 0)).isSome &&
 (PySem.W.findIn K (.ref (ds.getD i 0)) "__class__" == some (some (.builtin "object.__class__"))) && (PySem.W.specialIn K (.builtin "object.__class__") "__get__" == some (some (.builtin "getset_descriptor.__get__"))) && (PySem.W.takesIn K (.builtin "object.__class__") == some true) &&
 (PySem.W.mroIn K (ds.getD i 0) (.type "object") == some true) && (PySem.W.mroIn K (ds.getD i 0) (.type "BaseException") == some true) && (PySem.W.mroIn K (ds.getD i 0) (.ref M) == some true) &&
 ((List.range 19).all fun j => PySem.W.kitOne K (.ref (ds.getD i 0)) (.ref (ds.getD j 0)) == some (j == i)) && (PySem.W.kitOne K (.ref (ds.getD i 0)) (.type "ValueError") == some true)
structure Wd (K : PySem.W.Frag) (M : Addr) (ds : List Addr) (C : Addr) (word : Str) : Prop where
 ex : ∃ i,i < 19 /\ C = ds.getD i 0 /\ J4[i]? = some word /\ J5 K M ds i = true
section
variable {K : PySem.W.Frag} {M : Addr} {ds : List Addr} {i : Nat}
end
structure WdK (K : PySem.W.Frag) (M : Addr) (ds : List Addr) (C : Addr) (word : Str) : Prop where
 ex : ∃ i,i < 16 /\ C = ds.getD i 0 /\ J4[i]? = some word /\ J5 K M ds i = true
section
variable {X : Cx}
end
def GotL (H : Hp) (xs : List V) (Q : VK) : Prop := ∀ r H',Ab H H' -> H r = none -> H' r = some (.lst xs) -> Q (.ref r) H'
theorem GotL.at {H : Hp} {xs : List V} {Q : VK} (q : GotL H xs Q) : ∀ p,H p = none -> Q (.ref p) (upd H p (.lst xs)) := fun p hp => q p _ (Ab.new hp) hp Ai
section
variable {X : Cx} {es : List Expr} {t : TA} {pos : Pos}
def Os (t : TA) : TE := fun σ H Q => t σ H fun xs H1 => match Nat.ble xs.length 64 with | true => D9 H1 xs Q | false => False
def Ot (t : TA) : TE := fun σ H Q => t σ H fun xs H1 => match Nat.ble xs.length 64 with | true => GotL H1 xs Q | false => False
theorem B0 {x1} (h : PA X es t) : PE X (.Tuple es x1 pos) (Os t) := by
 intro pins s σ H Q I hq
 refine wpAny_Tuple_spliced (An (h pos pins s σ H _ I hq) fun us s1 ⟨xs,H1,I1,r,q⟩ => ?_)
 dsimp only at q
 split at q
 ·rename_i z
  refine ⟨by rw [<- r.length]; exact few z,?_⟩
  have hf : H1 s1.heap.objs.size = none := I1.hok.fresh (Nat.le_refl _)
  refine ⟨.ref s1.heap.objs.size,upd H1 s1.heap.objs.size (.tup xs),I1.laid (t' := s1.toks) (fun b u e => Heap.get?_push_of_some _ e) (Nat.le_refl _) ?_,rfl,q _ _ (Ab.new hf) Ai⟩
  exact ⟨few z,us,r,⟨_,Heap.get?_push_size _ rfl,rfl,_,rfl⟩⟩
 ·exact q.elim
theorem Ej (h : PA X es t) : PE X (.List es pos) (Ot t) := by
 intro pins s σ H Q I hq
 refine wpAny_List_spliced (An (h pos pins s σ H _ I hq) fun us s1 ⟨xs,H1,I1,r,q⟩ => ?_)
 dsimp only at q
 split at q
 ·rename_i z
  refine ⟨by rw [<- r.length]; exact few z,?_⟩
  have hf : H1 s1.heap.objs.size = none := I1.hok.fresh (Nat.le_refl _)
  refine ⟨.ref s1.heap.objs.size,upd H1 s1.heap.objs.size (.lst xs),I1.laid (t' := s1.toks) (fun b u e => Heap.get?_push_of_some _ e) (Nat.le_refl _) ?_,rfl,q.at _ hf⟩
  exact ⟨few z,us,0,r,Heap.get?_push_size _ rfl⟩
 ·exact q.elim
def Ou : R2 := fun x y H Q => ∃ l b xs zs,x = .ref l /\ y = .ref b /\ H l = some (.lst xs) /\ H b = some (.lst zs) /\ xs.length + zs.length <= sizeLine /\ GotL H (xs ++ zs) Q
theorem Ov : OpR X (binaryOp .Add) Ou := by
 intro pins s σ H x y v u Q I rx ry h
 obtain ⟨l,b,xs,zs,e1,e2,h1,h2,hz,q⟩ := h
 exact ME pins s σ H x y v u Q I rx ry ⟨l,b,xs,zs,e1,e2,h1,h2,hz,q.at⟩
end
end L2
end
section
namespace L2
open PySem PySem.Spec PyProof.Rows
section
variable {X : Cx}
end
end L2
namespace MF
open PySem PySem.Spec PyProof.Rows L2
def B8 (p : Int) (q : Int × Int) : Int := if q.2 < p then q.1 * (q.2 - p) else 0
def spared (r co : List Int) (p : Int) : Int := ((r.zip co).map (B8 p)).sum
def CJ (lo hi p b : Int) : Int := (p - b) * (if b < p then lo else hi)
def Bg (T : TM) (h : Nat) (p b : Int) : Int := p * T.ds.getD h 0 + spared (T.cs.getD h []) T.co p + CJ T.lo T.hi p b
def CK (T : TM) (ns : List Int) (k : Nat) : Int := ((List.range k).map fun h => Bg T h (ns.getD h 0) (ns.getD (h + 1) 0)).sum
def CA (T : TM) (ns : List Int) : Int := CK T ns ns.length - ns.getD 0 0 * T.st
theorem HL {T : TM} {ns : List Int} {k : Nat} : CK T ns (k + 1) = CK T ns k + Bg T k (ns.getD k 0) (ns.getD (k + 1) 0) := by
 unfold CK; rw [List.range_succ,List.map_append,List.sum_append]; simp
structure Bw (T : TM) : Prop where
 ok : T.ok
 c : ∀ r ∈ T.cs,r.length = T.co.length /\ ∀ c ∈ r,0 <= c /\ c <= 20
 o : T.co.length <= 4
 o1 : ∀ c ∈ T.co,1 <= c /\ c <= 9
 d : ∀ x ∈ T.ds,0 <= x /\ x <= 100
 l0 : 0 <= T.lo
 h0 : 0 <= T.hi
 s0 : 0 <= T.st
 l4 : T.lo <= 100
 h4 : T.hi <= 100
 s4 : T.st <= 100
theorem getD_mem {α : Type} {l : List α} {i : Nat} {d : α} (h : i < l.length) : l.getD i d ∈ l := by
 rw [List.getD_eq_getElem?_getD,List.getElem?_eq_getElem h]; exact List.getElem_mem h
def Ow (d : PyData) : Bool := match d with | .int i => decide (0 <= i) | _ => false
theorem CL {P : PL} {S : SY} (ok : P.ok) {n : Nat} (so : S.ok n) : Bw (terms P S) := by
 have h0 := ok.lo0
 have h1 := ok.ls
 have h2 := ok.sh
 have h3 := ok.h4
 refine ⟨ER so,fun r hr => ⟨by rw [(EM ok r hr).2]; show P.bs.length = (P.bs.map (·.2)).length; rw [List.length_map],fun c hc => by have := (EM ok r hr).1 c hc; omega⟩,by show (P.bs.map (·.2)).length <= 4; rw [List.length_map]; exact ok.b4,fun c hc => ?_,fun x hx => ?_,h0,?_,?_,?_,?_,?_⟩
 ·obtain ⟨q,hq,rfl⟩ := List.mem_map.mp hc
  have := ok.b q hq
  omega
 ·have := NL ok so x hx; omega
 ·show 0 <= P.hi; omega
 ·show 0 <= P.st; omega
 ·show P.lo <= 100; omega
 ·show P.hi <= 100; omega
 ·show P.st <= 100; omega
theorem HM {xs : List V} : BE xs (some 1) none = xs.drop 1 := by
 have e1 : HT.sIx xs.length xs.length none = xs.length := rfl
 have e2 : HT.sIx xs.length 0 (some 1) = min 1 xs.length := HT.sIx_nat _ _ 1
 unfold BE
 rw [e1,e2]
 cases xs with
 | nil => rfl
 | cons a l => rw [Nat.min_eq_left (by simp)]; simp
end MF
end
section
namespace MF
open PySem PySem.Spec PyProof.Rows L2
structure Ox (K : PySem.W.Frag) (x qual : Str) (st : Stmt) (f : Addr) (fd : FuncData) (c : Addr) : Prop where
 ex : ∃ (oc : Value) (od : Option Addr) (kV doc pm : Value) (an : Option Addr) (ct : Value) (osl : Array (Option Value)),
  fd = PySem.W.fnOf x qual (B5 st) (BN st) (Ap st) .none kV doc pm an (.ref c) ct /\ K.lookup f = some ⟨oc,od,.func fd,osl⟩ /\ PySem.W.codeIn K (.ref c) qual = true
end MF
end
section
namespace L2
open PySem PySem.Spec PyProof.Rows
variable {X : Cx} {σ : St} {H : Hp} {kvs : List (AT × V)} {te : TE}
theorem Oy : entryFor table "dict_itemiterator.__iter__" = some Builtin.«dict_keyiterator.__iter__» := entryFor_alias (id' := "dict_keyiterator.__iter__") (by kernel_rfl) rfl (by decide +kernel) (by kernel_rfl)
theorem Oz {P : Program} {w : World} {k : AT} {v : Value} (h : (Br P w).is k v = true) : Ay (kV k) v := by
 rw [Ln] at h
 rcases CB h with ⟨i,t,rfl,rfl⟩ | ⟨x,t,rfl,rfl⟩
 ·exact ⟨t,rfl⟩
 ·exact ⟨t,rfl⟩
theorem KV.get {κ : Type} : ∀ {ks : List (κ × V)} {vs : List (κ × Value)} {i : Nat} {q : κ × V},KV ks vs -> ks[i]? = some q -> ∃ u,vs[i]? = some (q.1,u) /\ Ay q.2 u
 | _,_,_,_,.nil,e => by simp at e
 | _,_,0,_,.cons (b := b) r _,e => by
  simp at e; subst e
  exact ⟨b.2,by rw [r.1]; rfl,r.2⟩
 | _,_,i + 1,q,.cons _ t,e => by
  obtain ⟨u,h1,h2⟩ := KV.get (i := i) (q := q) t (by simpa using e)
  exact ⟨u,by simpa using h1,h2⟩
theorem Ae.dictAt {pins : List (Addr × Obj)} {s : Shared} {d : Addr} {o : Obj} {es : Array DictEntry} {ep : Nat} (I : Ae X pins σ H s) (h : H d = some (.frz o (.dK kvs))) (ho : o.data = .dict es ep) :
  ∃ vs,KV kvs vs /\ s.heap.DictAt (Br X.prog X.w) d vs ep := by
 obtain ⟨e,_,_,vs,kv,o',es',ep',e',c,dd,r⟩ := (show ObjOk X.prog X.w H s.heap d (.frz o (.dK kvs)) from I.hok d _ h)
 rw [e] at e'; cases e'
 rw [ho] at dd; cases dd
 exact ⟨vs,kv,o,es,e,c,ho,r⟩
def HN (d : Addr) (o : Obj) (kvs : List (AT × V)) : It :=
 ⟨fun i H => H d = some (.frz o (.dK kvs)) /\ i < kvs.length,fun i H v H' => ∃ T q,v = .ref T /\ H T = none /\ kvs[i]? = some q /\ H' = upd H T (.tup [kV q.1,q.2]),fun i H => H d = some (.frz o (.dK kvs)) /\ kvs.length = i⟩
theorem OA {P : Program} {w : World} {K : PySem.W.Frag} {es : List Expr} {k : Nat} {pos : Pos} {o : Obj} {kvs : List (AT × V)} {es0 : Array DictEntry} {ep : Nat} (d it : Addr) (ho : o.data = .dict es0 ep) (hdi : d ≠ it) :
  Cr P w K (.Tuple es k pos) (HN d o kvs) [it] it (fun i h => ∃ ok ov,IsItemIter h it d i kvs.length ep ok ov) where
 mem := by simp
 obj := fun i h st b hb => by
  obtain ⟨ok,ov,he⟩ := st
  rw [List.mem_singleton.mp hb]
  exact ⟨_,he,fun v z => by
   have z' : Data.fields _ = Data.cell v := z
   cases z'⟩
 keep := fun i h h' st kk => by obtain ⟨ok,ov,he⟩ := st; exact ⟨ok,ov,kk it (by simp) _ he⟩
 item := by
  intro X hP hw hK hc i pins s σ H E I hf st hg
  subst hP hw
  obtain ⟨ok,ov,he⟩ := st
  obtain ⟨hd,hlt⟩ := hg
  obtain ⟨vs,kv,hm⟩ := I.dictAt hd ho
  have hl : kvs.length = vs.length := Paired.length kv
  have hq : kvs[i]? = some kvs[i] := by simp [hlt]
  obtain ⟨u,hu,ru⟩ := kv.get hq
  rw [hl] at he
  refine wpAny_pyNext_items_item he hm hu fun key h1 hkey hout htup hsz hk => ⟨_,rfl,wpAny_letOwnedTupleGo_items hout fun h2 he2 hs2 => ?_⟩
  have hiH : it < s.heap.objs.size := Heap.lt_size he
  have kk : ∀ b ob,b ∉ [it] -> s.heap.get? b = some ob -> h2.get? b = some ob := fun b ob hb q => hs2.extBut b ob (fun z => hb (by rw [z]; simp)) (hk b ob (fun z => hb (by rw [z]; simp)) q)
  have ht2 : IsTup h2 s.heap.objs.size [key,u].toArray := ⟨_,(hs2.2 _ (Nat.ne_of_gt hiH)).trans htup,rfl,_,rfl⟩
  exact ⟨.ref s.heap.objs.size,upd H s.heap.objs.size (.tup [kV kvs[i].1,kvs[i].2]),I.yielded (tk := s.toks) (fun b hb => hf b hb) kk (Nat.le_refl _) ht2 (.cons (Oz hkey) (.cons ru .nil)) (by show 2 <= sizeLine; decide),rfl,
   ⟨_, kvs[i], rfl, I.hok.fresh (Nat.le_refl _), hq, rfl⟩, ⟨key, u, by rw [hl]; exact he2⟩, fun b hb => by
    rw [List.mem_singleton.mp hb,Au (Nat.ne_of_lt hiH)]; exact (hf it (by simp)).1⟩
 done := by
  intro X hP hw hK hc i pins s σ H E I hf st hg
  subst hP hw
  obtain ⟨ok,ov,he⟩ := st
  obtain ⟨hd,hlt⟩ := hg
  obtain ⟨vs,kv,hm⟩ := I.dictAt hd ho
  have hl : kvs.length = vs.length := Paired.length kv
  rw [hl] at he
  refine wpAny_pyNext_items_end (I.ok.hd hc) he hm (by rw [List.getElem?_eq_none]; omega) fun h' he' => ⟨rfl,I.ended (tk := s.toks) (fun b hb => hf b hb) fun b ob hb q => he' b ob (fun z => hb (by rw [z]; simp)) q⟩
 self := fun A i s Q E st h => by
  obtain ⟨ok,ov,he⟩ := st
  have hT : s.TypeIs (.ref it) "dict_itemiterator" := ⟨_,he,rfl⟩
  refine wpAny_pyIter_slot hT F.slot_dict_itemiterator_iter (wpAny_call_entry F.slot_dict_itemiterator_iter hT Oy ?_ (F.args_dict_itemiterator_iter_1 _))
  show wpAny _ _ (ret (.ref it)) _ _ s
  exact wpAny_pure ⟨_,rfl,"dict_itemiterator",_,hT,F.slot_dict_itemiterator_next.lookup,h⟩
def OB (te : TE) : TI := fun σ H R => te σ H fun x H1 => ∃ d o kvs,x = .ref d /\ H1 d = some (.frz o (.dK kvs)) /\ R (HN d o kvs) H1
theorem J6 {es : List Expr} {k : Nat} {pos' apos cpos : Pos} {e : Expr} (he : PE X e te) (hbase : attributeBase e "items" X.env (eval e X.env) = eval e X.env := by rfl) (hline : (apos.endLine == cpos.line) = true := by rfl) :
  PI X (.Tuple es k pos') (.Call (.Attribute e "items" apos) [] [] cpos) (OB te) := by
 intro pins s σ H R I h
 refine wpAny_Call_method0_late hbase hline (An (he pins s σ H _ I h) fun v s1 ⟨x,H1,I1,r1,d,o,kvs,ex,hd,q⟩ => ?_)
 subst ex
 cases r1
 obtain ⟨eo,_,hsys,vs0,kv0,hm0⟩ := (show ObjOk X.prog X.w H1 s1.heap d (.frz o (.dK kvs)) from I1.hok d _ hd)
 obtain ⟨o',es0,ep,e',c,dd,r⟩ := id hm0
 have eoo : o' = o := by rw [eo] at e'; exact (Option.some.inj e').symm
 subst eoo
 refine ⟨"dict","dict.items",F.plainAttrs_dict,F.slot_dict_items,F.type_dict_items,hm0.typeIs,hm0.mapOf.noDict,?_⟩
 refine method_meetsIn F.slot_dict_items F.entry_dict_items rfl (PySem.evalArgs_none ⟨rfl,hm0.typeIs,F.args_dict_items_1 _,_,meets_dict_items (Br X.prog X.w) d hsys,⟨_,hm0⟩,?_⟩)
 have hlt := Heap.lt_size eo
 have hz : (s1.heap.push { cls := .type "dict_items",data := .fields #[.ref d] }).objs.size = s1.heap.objs.size + 1 := Heap.size_push ..
 have hm1 : s1.heap.DictAt (Br X.prog X.w) d vs0 ep := ⟨o',es0,eo,c,dd,r⟩
 refine wpAny_pyIter_items (knd := Br X.prog X.w) (d := d) (kvs := vs0) (ep := ep) ⟨_,Heap.get?_push_size _ rfl,rfl,rfl⟩ (hm1.push _) ?_
 have hl : kvs.length = vs0.length := Paired.length kv0
 dsimp only
 have kk : ∀ b ob,s1.heap.get? b = some ob -> ((s1.heap.push { cls := .type "dict_items",data := .fields #[.ref d] }).push { cls := .type "dict_itemiterator",data := .fields #[.none,.bool false,.ref d,.int 0 0,.int vs0.length 0,.int ep 0,.none,.none] }).get? b = some ob := fun b ob q => Heap.get?_push_of_some _ (Heap.get?_push_of_some _ q)
 have hit : ((s1.heap.push { cls := .type "dict_items",data := .fields #[.ref d] }).push { cls := .type "dict_itemiterator",data := .fields #[.none,.bool false,.ref d,.int 0 0,.int vs0.length 0,.int ep 0,.none,.none] }).get? (s1.heap.objs.size + 1) = some { cls := .type "dict_itemiterator",data := .fields #[.none,.bool false,.ref d,.int 0 0,.int vs0.length 0,.int ep 0,.none,.none] } := by
  rw [<- hz]; exact Heap.get?_push_size _ rfl
 rw [hz]
 generalize (s1.heap.push { cls := .type "dict_items",data := .fields #[.ref d] }).push { cls := .type "dict_itemiterator",data := .fields #[.none,.bool false,.ref d,.int 0 0,.int vs0.length 0,.int ep 0,.none,.none] } = h2 at kk hit
 refine ⟨s1.heap.objs.size + 1,[s1.heap.objs.size + 1],_,_,H1,rfl,I1.kept (t' := s1.toks) kk,OA (o := o') (kvs := kvs) d (s1.heap.objs.size + 1) dd (Nat.ne_of_lt (Nat.lt_succ_of_lt hlt)),⟨.none,.none,by rw [hl]; exact hit⟩,fun b hb => ?_,q⟩
 rw [List.mem_singleton.mp hb]; exact I1.fpOk (Nat.le_succ _) (I1.hok.fresh (Nat.le_succ _))
theorem J7 {d : Addr} {o : Obj} {cap : List (Option Nat)} {g : TG} {tt : TT} {Q : List V -> Hp -> Prop} (Pv : Nat -> List V -> Hp -> Prop) (hn : kvs.length <= 100000) (h0 : Pv 0 [] H) (hz : ∀ i zs H,Pv i zs H -> zs.length <= i)
  (hl : ∀ i zs H,Pv i zs H -> H d = some (.frz o (.dK kvs)))
  (hs : ∀ i q zs H T,kvs[i]? = some q -> Pv i zs H -> H T = none -> g (.ref T) (AK cap σ) (upd H T (.tup [kV q.1,q.2])) fun σ2 H2 => Keep (AK cap σ) σ2 /\ tt σ2 H2 fun b H3 => br b (te σ2 H3 fun y H4 => Pv (i + 1) (zs ++ [y]) H4) (Pv (i + 1) zs H3))
  (hd : ∀ zs H,Pv kvs.length zs H -> Q zs H) : Dj (HN d o kvs) cap g tt te σ Q H :=
 DC kvs.length Pv hn h0 hz (fun i zs H hi p => ⟨⟨hl i zs H p,hi⟩,fun v H' ⟨T,q,e,n,hq,y⟩ => by
  subst e y
  exact hs i q zs H T hq p n⟩)
  fun zs H p => ⟨⟨hl _ zs H p,rfl⟩,hd zs H p⟩
end L2
end
section
namespace L2
open PySem PySem.Spec PyProof.Rows
variable {k : AT} {v : V} {u : Value} {P : Program} {h : Heap} {a : Addr} {vs : List (AT × Value)} {Y : Cx} {PB : List (Addr × Obj)} {σ : St} {H : Hp}
abbrev KL := List (AT × V)
def B1 (ks : KL) (k : AT) (v : V) : KL := if ks.any (fun q => q.1 = k) then ks.map (fun q => if q.1 = k then (q.1,v) else q) else ks ++ [(k,v)]
theorem KV.anyK : ∀ {ks : KL} {vs : List (AT × Value)},KV ks vs -> ks.any (fun q => q.1 = k) = vs.any (fun q => q.1 = k)
 | _,_,.nil => rfl
 | _,_,.cons r t => by rw [List.any_cons,List.any_cons,KV.anyK t,r.1]
theorem KV.mapK (h : Ay v u) : ∀ {ks : KL} {vs : List (AT × Value)},KV ks vs -> KV (ks.map fun q => if q.1 = k then (q.1,v) else q) (vs.map fun q => if q.1 = k then (q.1,u) else q)
 | _,_,.nil => .nil
 | _,_,.cons (a := a) (b := b) r t => by
  rw [List.map_cons,List.map_cons]
  refine .cons ?_ (KV.mapK h t)
  rw [<- r.1]
  split
  ·exact ⟨r.1 ▸ rfl,h⟩
  ·exact r
theorem KV.snoc {κ : Type} {q : κ × V} {p : κ × Value} (h : q.1 = p.1 /\ Ay q.2 p.2) : ∀ {ks : List (κ × V)} {vs : List (κ × Value)},KV ks vs -> KV (ks ++ [q]) (vs ++ [p])
 | _,_,.nil => .cons h .nil
 | _,_,.cons r t => .cons r (KV.snoc h t)
theorem KV.put (h : Ay v u) {ks : KL} {vs : List (AT × Value)} (r : KV ks vs) : KV (B1 ks k v) (stored vs k u) := by
 unfold B1 stored
 rw [r.anyK]
 split
 ·exact KV.mapK h r
 ·exact KV.snoc ⟨rfl,h⟩ r
theorem J8 (ks : KL) (k : AT) (v : V) : (B1 ks k v).length <= ks.length + 1 := by
 unfold B1
 split
 ·rw [List.length_map]; omega
 ·rw [List.length_append]; simp
theorem OC (P : Program) (w : World) (h : Ay (kV k) u) : (Br P w).is k u = true := by
 cases k with
 | inl i => obtain ⟨t,rfl⟩ := h; exact Ip P w i t
 | inr x => obtain ⟨t,rfl⟩ := h; exact Lo P w x t
section
variable {prog : Program} {w : World} {A : Around} {R : Result -> Shared -> Prop} {s : Shared} {kx vx tg it : Expr} {ifs : List Expr} {sc : Scope} {ps : Pos} {itv : Value} {D : Addr} {env : Env}
theorem OD (ht : ∀ v,letOwnedTupleGo tg itv v = pure ()) (I : Nat -> Shared -> Prop)
  (turn : ∀ n s, I n s -> wpAny (model prog w) A (pyNext itv) (fun r s1 => match r with
   | none => R (.ok .next) s1
   | some v => wpAny (model prog w) A (letOwnedTupleGo tg itv v) (fun _ s2 => wpAny (model prog w) A (assign tg env v) (fun _ s3 =>
     wpAny (model prog w) A (forIn ifs true fun c r => if r = true then do let ok <- isTrue c env (eval c env); pure (ForInStep.yield ok) else pure (ForInStep.yield r)) (fun ok s4 =>
      if ok = true then wpAny (model prog w) A (eval kx env) (fun kv s5 => wpAny (model prog w) A (eval vx env) (fun vv s6 => wpAny (model prog w) A (dictSet D kv vv) (fun _ s7 => ∃ m,m < n /\ I m s7) (fun _ _ => False) s6) (fun _ _ => False) s5) (fun _ _ => False) s4
      else ∃ m,m < n /\ I m s4) (fun _ _ => False) s3) (fun _ _ => False) s2) (fun _ _ => False) s1) (fun _ _ => False) s)
  (n : Nat) (h : I n s) : codeAny (model prog w) A (.compLoop (.DictComp kx vx [⟨tg,it,ifs,0⟩] sc ps) 0 itv (.ref D) env) R s := by
 refine codeAny_compLoop_testsD I (fun m s0 hI => wpAny_mono (turn m s0 hI) (fun r s1 h1 => ?_) fun _ _ z => z.elim) n h ht
 cases r with
 | none => exact h1
 | some v =>
  have both := wpAny_bind h1
  rw [ht v,pure_bind] at both
  refine wpAny_mono both (fun _ s3 h3 => wpAny_mono h3 (fun ok s4 h4 => ?_) fun _ _ z => z.elim) fun _ _ z => z.elim
  cases ok with
  | false => exact h4
  | true => exact wpAny_mono h4 (fun kv s5 h5 => wpAny_mono h5 (fun vv s6 h6 => wpAny_mono h6 (fun _ _ z => z) fun _ _ z => z.elim) fun _ _ z => z.elim) fun _ _ z => z.elim
end
structure GrownD (Y : Cx) (a : Addr) (PB : List (Addr × Obj)) (σ : St) (zs : KL) (H : Hp) (s : Shared) : Prop where
 inv : Ae Y PB σ H s
 no : H a = none
 len : zs.length <= sizeLine
 at' : ∃ o vs,s.heap.get? a = some o /\ KV zs vs /\ s.heap.DictOf (Br Y.prog Y.w) a vs
def DictO (P : Program) (w : World) (o : Obj) (vs : List (AT × Value)) : Prop := ∃ es ep,o.ExactDict /\ o.data = .dict es ep /\ KeysOf (Br P w) es /\ Pairs (Br P w) es.toList vs /\ (vs.map (·.1)).Nodup
theorem DictO.of {w : World} {o : Obj} (d : h.DictOf (Br P w) a vs) (e : h.get? a = some o) : DictO P w o vs := by
 obtain ⟨o',es,ep,e',r⟩ := d
 rw [e] at e'; cases e'
 exact ⟨es,ep,r⟩
theorem DictO.to {w : World} {o : Obj} (d : DictO P w o vs) (e : h.get? a = some o) : h.DictOf (Br P w) a vs := by
 obtain ⟨es,ep,r⟩ := d
 exact ⟨o,es,ep,e,r⟩
theorem GrownD.pin {zs : KL} {s : Shared} {o : Obj} (A : CV Y a) (g : GrownD Y a PB σ zs H s) (e : s.heap.get? a = some o) (d : DictO Y.prog Y.w o vs) : Ae Y ((a,o) :: PB) σ H s :=
 g.inv.pins_of fun p hp => by
  rcases List.mem_cons.mp hp with rfl | hp
  ·exact ⟨e,g.no,A.loc,A.fs,fun v z => by
    obtain ⟨es,ep,_,dd,_⟩ := d
    have z' : o.data = .cell v := z
    rw [dd] at z'; cases z'⟩
  ·exact g.inv.pin p (List.mem_append_right _ hp)
theorem Ae.grownD {zs : KL} {s : Shared} {o : Obj} (I : Ae Y ((a,o) :: PB) σ H s) (hz : zs.length <= sizeLine) (v : KV zs vs) (d : DictO Y.prog Y.w o vs) : GrownD Y a PB σ zs H s := by
 have q := I.pin (a,o) (List.mem_append_right _ List.mem_cons_self)
 exact ⟨I.pins_of fun p hp => I.pin p (List.mem_append_right _ (List.mem_cons_of_mem _ hp)),q.2.1,hz,o,vs,q.1,v,d.to q.1⟩
def J9 (wi : TI) (cap : List (Option Nat)) (g : TG) (tt : TT) (tk te : TE) : St -> Hp -> (KL -> Hp -> Prop) -> Prop := fun σ H Q => wi σ H fun J H1 =>
 ∃ W : Nat -> Nat -> KL -> Hp -> Prop,(∃ m,W 0 m [] H1) /\ ∀ i m ys H,W i m ys H ->
  (J.stop i H /\ Q ys H) \/
  (J.go i H /\ ys.length < sizeLine /\ ∃ N : KL -> Hp -> Prop, (∀ ys' H', N ys' H' -> ∃ m', m' < m /\ W (i + 1) m' ys' H') /\ ∀ x H', J.yld i H x H' -> g x (AK cap σ) H' fun σ2 H2 => Keep (AK cap σ) σ2 /\ tt σ2 H2 fun b H3 =>
   br b (tk σ2 H3 fun k H4 => te σ2 H4 fun y H5 => ∃ kk,k = kV kk /\ N (B1 ys kk y) H5) (N ys H3))
theorem OE {kx vx tg it : Expr} {ifs : List Expr} {sc : Scope} {ps : Pos} {m0 : Nat} {Y : Cx} {a jt : Addr} {PB : List (Addr × Obj)} {g : TG} {tt : TT} {tk te : TE} {fp : List Addr} {tn : Nat -> Heap -> Prop} {J : It} {W : Nat -> Nat -> KL -> Hp -> Prop} {σ : St} {ys : KL} {H : Hp} {s : Shared} {N : KL -> Hp -> Prop} {R : Result -> Shared -> Prop}
  (A : CV Y a) (hnm : ∀ itv v,letOwnedTupleGo tg itv v = pure ()) (hPB : ∀ p ∈ PB,p.1 ≠ a) (hx : Y.xe = fun _ _ => False) (hg : PG Y tg g) (htt : BX Y ifs tt) (hk : PE Y kx tk) (he : PE Y vx te)
  (T : Cr Y.prog Y.w Y.K tg J fp jt tn) (na : ∀ b ∈ fp,b ≠ a) (fpY : ∀ {o : Obj} {H' : Hp},(∀ b ∈ fp,H' b = none) -> ∀ b ∈ fp,Bq Y ((a,o) :: PB) H' b) (st : tn 0 s.heap) (gr : GrownD Y a PB σ ys H s) (hn : ∀ b ∈ fp,H b = none) (w0 : W 0 m0 ys H)
  (turn : ∀ j m zs H,W j m zs H -> (J.stop j H /\ N zs H) \/ (J.go j H /\ zs.length < sizeLine /\ (∃ N2 : KL -> Hp -> Prop,(∀ zs' H',N2 zs' H' -> ∃ m',m' < m /\ W (j + 1) m' zs' H') /\ ∀ x H',J.yld j H x H' -> g x σ H' fun σ3 H2 => Keep σ σ3 /\ tt σ3 H2 fun b H3 => br b (tk σ3 H3 fun k H4 => te σ3 H4 fun y H5 => ∃ kk,k = kV kk /\ N2 (B1 zs kk y) H5) (N2 zs H3))))
  (back : ∀ zs H' s',GrownD Y a PB σ zs H' s' -> N zs H' -> R (.ok .next) s') : codeAny (model Y.prog Y.w) Y.A (.compLoop (.DictComp kx vx [⟨tg,it,ifs,0⟩] sc ps) 0 (.ref jt) (.ref a) Y.env) R s := by
 refine OD (hnm _) (fun n' s' => ∃ (j : Nat) (zs : KL) (H' : Hp),GrownD Y a PB σ zs H' s' /\ tn j s'.heap /\ (∀ b ∈ fp,H' b = none) /\ W j n' zs H') ?_ m0 ⟨0,ys,H,gr,st,hn,w0⟩
 rintro n' s12 ⟨j,zs,H12,g12,st12,fr12,w12⟩
 obtain ⟨o12,vs12,e12,v12,d12⟩ := g12.at'
 have do12 := DictO.of d12 e12
 have I12 := g12.pin A e12 do12
 rcases turn j n' zs H12 w12 with ⟨stop,q⟩ | ⟨go2,hz0⟩
 ·refine An (T.done Y rfl rfl rfl A.calm j _ s12 _ H12 _ I12 (fpY fr12) st12 stop) fun r s13 ⟨hr,I13⟩ => ?_
  subst hr
  exact back zs H12 s13 (Ae.grownD I13 g12.len v12 do12) q
 ·obtain ⟨hC,N2,hN2,step2⟩ := hz0
  refine An (T.item Y rfl rfl rfl A.calm j _ s12 _ H12 _ I12 (fpY fr12) st12 go2) fun r s13 ⟨u2,hr,h13⟩ => ?_
  subst hr
  refine An h13 fun _ s14 ⟨x2,H14,I14,r14,y14,st14,fr14⟩ => ?_
  have I14' := I14.pinned (fpY fr14) (T.obj _ _ st14)
  have hgY := hg _ s14 _ H14 x2 u2 _ I14' r14 (step2 x2 H14 y14)
  rw [hx] at hgY
  refine An hgY fun _ s15 ⟨σ15,H15,I15,kp2,q15⟩ => ?_
  have htY := htt _ s15 σ15 H15 _ I15 q15
  rw [hx] at htY
  refine An htY fun b2 s16 ⟨H16,I16,q16⟩ => ?_
  have pn : ∀ p ∈ PB ++ Cs fp s14.heap,p.1 ≠ a := fun p hp => by
   rcases List.mem_append.mp hp with hp | hp
   ·exact hPB p hp
   ·exact na p.1 (G7 hp).1
  have back2 : ∀ {σ' : St} {zs' : KL} {H' : Hp} {s' : Shared},Keep σ σ' -> GrownD Y a (PB ++ Cs fp s14.heap) σ' zs' H' s' -> N2 zs' H' -> ∃ m,m < n' /\ ∃ (j : Nat) (zs : KL) (H' : Hp),GrownD Y a PB σ zs H' s' /\ tn j s'.heap /\ (∀ b ∈ fp,H' b = none) /\ W j m zs H' := fun {σ' zs' H' s'} kp G n2 => by
   obtain ⟨m',hm,w16⟩ := hN2 _ _ n2
   refine ⟨m',hm,j + 1,zs',H',⟨(G.inv.pins_of fun p hp => G.inv.pin p (List.mem_append_right _ (List.mem_append_left _ hp))).weak (by rw [kp.len]) fun i v e => kp.get e,G.no,G.len,G.at'⟩,T.keep _ _ _ st14 fun b hb o e => (G.inv.pin (b,o) (List.mem_append_right _ (List.mem_append_right _ (DW hb e)))).1,fun b hb => ?_,w16⟩
   obtain ⟨o,e,d⟩ := T.obj _ _ st14 b hb
   exact (G.inv.pin (b,o) (List.mem_append_right _ (List.mem_append_right _ (DW hb e)))).2.1
  have g16 : GrownD Y a (PB ++ Cs fp s14.heap) σ15 zs H16 s16 := Ae.grownD I16 g12.len v12 do12
  cases b2 with
  | false =>
   rw [if_neg Bool.false_ne_true]
   exact back2 kp2 g16 (q16.2 rfl)
  | true =>
   rw [if_pos rfl]
   have hkY := hk _ s16 σ15 H16 _ I16 (q16.1 rfl)
   rw [hx] at hkY
   refine An hkY fun kv s17 ⟨kval,H17,I17,r17,q17⟩ => ?_
   have heY := he _ s17 σ15 H17 _ I17 q17
   rw [hx] at heY
   refine An heY fun yv s18 ⟨y,H18,I18,r18,kk,ek,n18⟩ => ?_
   subst ek
   have G18 := Ae.grownD I18 g12.len v12 do12
   have e18 := (I18.pin (a,o12) (List.mem_append_right _ List.mem_cons_self)).1
   refine wpAny_dictSet_pairs (hsz := by rw [<- Paired.length v12]; exact g12.len) (OC Y.prog Y.w r17) (do12.to e18) fun h6 d6 hs6 => ?_
   have I19 : Ae Y (PB ++ Cs fp s14.heap) σ15 H18 { s18 with heap := h6,toks := s18.toks + 1 } :=
    G18.inv.turned (t' := s18.toks + 1) (it := a) (fun b o hb e => hs6.extBut b o hb e) G18.no A.loc A.sz A.cell fun p hp z => by
     rw [A.pn,List.nil_append] at hp
     exact pn p hp z
   obtain ⟨o6,es6,ep6,e6,r6⟩ := id d6
   exact back2 kp2 ⟨I19,G18.no,by have := J8 zs kk y; omega,o6,_,e6,KV.put r18 v12,d6⟩ n18
theorem OF {X : Cx} {tg iter kx vx : Expr} {ifs : List Expr} {scope : Scope} {pos pos' : Pos} {wi : TI} {g : TG} {tt : TT} {tk te : TE} {N' : List Str} {cap : List (Option Nat)} {use : Option (Value -> Sem Unit)} {Q' : Value -> Shared -> Prop}
  {pins : List (Addr × Obj)} {s : Shared} {σ : St} {H : Hp} {Q : KL -> Hp -> Prop}
  (hc : X.calm = true) (hi : PI X tg iter wi) (B : AG X.env.scope X.N scope N' cap) (hg : ∀ s H ex C,PG (AM X N' scope s H ex C) tg g) (ht : ∀ s H ex C,BX (AM X N' scope s H ex C) ifs tt)
  (hk : ∀ s H ex C,PE (AM X N' scope s H ex C) kx tk) (he : ∀ s H ex C,PE (AM X N' scope s H ex C) vx te)
  (hnm : ∀ itv v,letOwnedTupleGo tg itv v = pure ()) (hs : ∀ x,foldedSetIterable iter X.env x = pure x) (I : Ae X pins σ H s)
  (h : J9 wi cap g tt tk te σ H Q)
  (fin : ∀ (acc C : Addr) (H : Hp) (ys : KL) (o : Obj) (s' : Shared),H acc = none -> Ae X pins σ (upd H acc (.frz o (.dK ys))) s' -> FG X pins C (upd H acc (.frz o (.dK ys))) s' -> Q ys H -> compPost (model X.prog X.w) X.A X.xe use Q' (.ref acc) C (.ok .next) s') :
  wpAny (model X.prog X.w) X.A (comprehension (.DictComp kx vx [⟨tg,iter,ifs,0⟩] scope pos) scope X.env pos' newDict false (eval iter X.env) use) Q' X.xe s := by
 have hclos : closureFor scope X.env = pure (Bj X.env.cells scope.names []) := Jj fun y hy hf => I.ok.has y.1 (B.free y hy hf)
 refine wpAny_comprehension_free (cl := Bj X.env.cells scope.names []) rfl hs hclos B.kind B.names (An (hi pins s σ H _ I h) fun v s1 h1 => An h1 fun itv s2 h2 => ?_)
 obtain ⟨it,fp,tn,J,H2,e,I2,T,st2,f2,W,⟨m0,w0⟩,turn⟩ := h2
 subst e
 refine wpAny_newObj_type (Jk ?_)
 dsimp only
 generalize hH3 : s2.heap.push { cls := .type "dict",dict := none,data := .dict #[] } = h3
 have hsz3 : h3.objs.size = s2.heap.objs.size + 1 := by rw [<- hH3]; exact Heap.size_push ..
 have hk3 : ∀ b o,s2.heap.get? b = some o -> h3.get? b = some o := fun b o e => by rw [<- hH3]; exact Heap.get?_push_of_some _ e
 have hacc3 : h3.get? s2.heap.objs.size = some { cls := .type "dict",data := .dict #[] } := by rw [<- hH3]; exact Heap.get?_push_size _ rfl
 have hlt : ∀ b ∈ fp,b < s2.heap.objs.size := fun b hb => let ⟨o,e,_⟩ := T.obj _ _ st2 b hb; Heap.lt_size e
 have I4 := Jm I2 B f2 hlt hk3 (by rw [hsz3]; exact Nat.le_succ _)
 have acc4 : (pushCells (h3.push { cls := .type "dict",data := .dict #[] }) scope.names).get? s2.heap.objs.size = some { cls := .type "dict",data := .dict #[] } := pushCells_keeps _ _ _ _ (Heap.get?_push_of_some _ hacc3)
 have st4 : tn 0 (pushCells (h3.push { cls := .type "dict",data := .dict #[] }) scope.names) := T.keep _ _ _ st2 fun b _ o e => pushCells_keeps _ _ _ _ (Heap.get?_push_of_some _ (hk3 b o e))
 have dict4 : (pushCells (h3.push { cls := .type "dict",data := .dict #[] }) scope.names).DictOf (Br X.prog X.w) s2.heap.objs.size [] := Heap.DictOf.at (hH3 ▸ Heap.DictOf.new s2.heap) fun o e => pushCells_keeps _ _ _ _ (Heap.get?_push_of_some _ e)
 have haC : s2.heap.objs.size ≠ h3.objs.size := by rw [hsz3]; exact Nat.ne_of_lt (Nat.lt_succ_self _)
 have haN : s2.heap.objs.size ∉ Bx X.stack := fun z => by
  rcases List.mem_cons.mp (I2.stkSub _ z) with q | q
  ·exact absurd I2.lt (by rw [<- q]; exact Nat.lt_irrefl _)
  ·exact I2.nofs (Nat.le_refl _) q
 have okY := I4.ok
 have fpY : ∀ {pins' : List (Addr × Obj)} {H' : Hp},(∀ b ∈ fp,H' b = none) -> (∀ p ∈ pins',p.1 = s2.heap.objs.size) -> ∀ b ∈ fp,Bq (AM X N' scope s2 H2 fp h3.objs.size) pins' H' b := fun {pins' H'} hn hp b hb =>
  ⟨hn b hb, (okY.exf b hb).1, okY.exfs b hb, .inl hb, (okY.exf b hb).2, fun p z e => by
   have z' : p ∈ pins' := z
   have := hlt b hb
   rw [<- e,hp p z'] at this
   exact Nat.lt_irrefl _ this⟩
 have cellNe : ∀ x c,(AM X N' scope s2 H2 fp h3.objs.size).env.cells.lookup x = some c -> c ≠ s2.heap.objs.size := fun x c ec z => by
  rcases DY scope.names (h3.objs.size + 1) _ ec with q' | q'
  ·rw [z,hsz3] at q'
   exact absurd q' (by omega)
  ·have ec' : X.env.cells.lookup x = some c := (DA _ _ q').elim id fun z => nomatch z
   obtain ⟨_,q''⟩ := I2.cell x c ec'
   have := q''.lt
   rw [z] at this
   exact Nat.lt_irrefl _ this
 have loop : ∀ s4 : Shared,s4 = { s2 with heap := pushCells (h3.push { cls := .type "dict",data := .dict #[] }) scope.names } ->
   codeAny (model X.prog X.w) X.A (.compLoop (.DictComp kx vx [⟨tg,iter,ifs,0⟩] scope pos) 0 (.ref it) (.ref s2.heap.objs.size) (Ho scope X.env h3.objs.size)) (compPost (model X.prog X.w) X.A X.xe use Q' (.ref s2.heap.objs.size) h3.objs.size) s4 := by
  rintro s4 rfl
  have A0 : CV (AM X N' scope s2 H2 fp h3.objs.size) s2.heap.objs.size := ⟨haC,haN,.inr (Nat.le_refl _),cellNe,rfl,hc⟩
  refine OE (Y := AM X N' scope s2 H2 fp h3.objs.size) (PB := []) (W := W) A0 hnm (fun p hp => absurd hp (by simp)) rfl (hg _ _ _ _) (ht _ _ _ _) (hk _ _ _ _) (he _ _ _ _) T (fun b hb z => absurd (hlt b hb) (by rw [z]; exact Nat.lt_irrefl _))
   (fun {o H'} hn b hb => fpY hn (fun p hp => by rw [List.mem_singleton.mp hp]) b hb) st4 ⟨I4,I2.hok.fresh (Nat.le_refl _),Nat.zero_le _,_,[],acc4,.nil,dict4⟩ (fun b hb => (f2 b hb).1) w0 turn fun ys H5 s6 G q => ?_
  obtain ⟨o6,vs6,e6,v5,d6⟩ := G.at'
  have bigA : (s2.heap.objs.size == sysModules) = false := beq_eq_false_iff_ne.mpr (Ne.symm (Nat.ne_of_lt I2.big))
  have fa5 := G.no
  have z5 := G.len
  have I6 := G.inv
  have nacc : ∀ b u,H5 b = some u -> b ≠ s2.heap.objs.size := fun b u q z => by rw [z,fa5] at q; cases q
  have un : Un (Bx X.stack) fp H2 (upd H5 s2.heap.objs.size (.frz o6 (.dK ys))) s2.heap s6.heap := by
   have u := I6.base
   refine ⟨u.keep,u.slot,fun b o q n hx => ?_,u.there,fun b xs q => ?_,fun b o xs q => ?_,fun b ps q => ?_⟩
   ·rw [Au (Nat.ne_of_lt (Heap.lt_size q))]
    exact u.free b o q n hx
   ·have z := u.tups b xs q
    rw [Au (nacc b _ z)]; exact z
   ·have z := u.frzs b o xs q
    rw [Au (nacc b _ z)]; exact z
   ·obtain ⟨more,z⟩ := u.tbls b ps q
    exact ⟨more,by rw [Au (nacc b _ z)]; exact z⟩
  have hok : HOk X.prog X.w (upd H5 s2.heap.objs.size (.frz o6 (.dK ys))) s6.heap := fun b u q => by
   by_cases hb : b = s2.heap.objs.size
   ·subst hb
    rw [Ai] at q; cases q
    exact ⟨e6,z5,bigA,vs6,v5,d6⟩
   ·rw [Au hb] at q
    have o6 : ObjOk X.prog X.w H5 s6.heap b u := I6.hok b u q
    exact o6.stay (fun _ _ _ e => e) (fun c z => by rw [Au (nacc c _ z)]; exact z) fun c xs z => by rw [Au (nacc c _ z)]; exact z
  have IX : Ae X pins σ (upd H5 s2.heap.objs.size (.frz o6 (.dK ys))) s6 := I2.call' (show s6.os = s2.os from I6.os) un hok I6.bare fun b hb => let f := f2 b hb; ⟨f.2.2.2.1,f.2.1,f.2.2.2.2.1,f.2.2.2.2.2⟩
  have hCs : s2.heap.objs.size <= h3.objs.size := by rw [hsz3]; exact Nat.le_succ _
  refine fin _ _ H5 ys o6 s6 fa5 IX ⟨let ⟨m,hn,_⟩ := I6.loc; ⟨m,hn⟩,?_,?_,Nat.le_trans I2.sz hCs,fun x c ec z => ?_,fun p hp z => ?_⟩ q
  ·rw [Au (Ne.symm haC)]; exact I6.free
  ·exact Nat.ne_of_gt (Nat.lt_of_lt_of_le I2.lt hCs)
  ·obtain ⟨_,q⟩ := I2.cell x c ec
   have := q.lt
   rw [z] at this
   exact absurd (Nat.lt_of_lt_of_le this hCs) (Nat.lt_irrefl _)
  ·have := Heap.lt_size (I2.pin p hp).1
   rw [z] at this
   exact absurd (Nat.lt_of_lt_of_le this hCs) (Nat.lt_irrefl _)
 exact codeAny_compStart_dict (loop _ rfl) (T.self _ 0 _ _ _ st4 (loop _ rfl))
def OG (wi : TI) (cap : List (Option Nat)) (g : TG) (tt : TT) (tk te : TE) : TE := fun σ H Q => J9 wi cap g tt tk te σ H fun ys H' => ∀ p o,H' p = none -> Q (.ref p) (upd H' p (.frz o (.dK ys)))
theorem OH {X : Cx} {tg iter kx vx : Expr} {ifs : List Expr} {scope : Scope} {pos : Pos} {wi : TI} {g : TG} {tt : TT} {tk te : TE} (N' : List Str) (cap : List (Option Nat))
  (hc : X.calm = true) (hi : PI X tg iter wi) (B : AG X.env.scope X.N scope N' cap) (hg : ∀ s H ex C,PG (AM X N' scope s H ex C) tg g) (ht : ∀ s H ex C,BX (AM X N' scope s H ex C) ifs tt) (hk : ∀ s H ex C,PE (AM X N' scope s H ex C) kx tk) (he : ∀ s H ex C,PE (AM X N' scope s H ex C) vx te)
  (hnm : ∀ itv v,letOwnedTupleGo tg itv v = pure () := by intro _ _; rfl) (hs : ∀ x,foldedSetIterable iter X.env x = pure x := by intro _; rfl) : PE X (.DictComp kx vx [⟨tg,iter,ifs,0⟩] scope pos) (OG wi cap g tt tk te) := by
 intro pins s σ H Q I h
 rw [arm_eval_DictComp]
 refine OF (use := none) hc hi B hg ht hk he hnm hs I h fun acc C H ys o s' hn I' L q => ?_
 obtain ⟨m,hm⟩ := L.ns
 refine ⟨m,hm,fun h' hsb => ⟨.ref acc,_,I'.turned (t' := s'.toks) (it := C) (fun b o hb e => hsb.extBut b o hb e) L.free L.loc (.inr L.sz) L.cell L.pin,rfl,q acc o hn⟩⟩
end L2
end
section
namespace L2
open PySem PySem.Spec PyProof.Rows
variable {t u v : Tok} {Q : KL -> Hp -> Prop} {a : Addr} {σ : St} {H : Hp} {te : TE} {cap : List (Option Nat)} {tt : TT}
section
variable {prog : Program} {w : World} {A : Around} {E : Value -> Shared -> Prop} {s : Shared}
theorem OI : isSubtype (.type "range_iterator") (.type "reversed") = pure false := by rw [isSubtype_type]; kernel_rfl
abbrev C3 (n : Int) : Obj := { cls := .type "range_iterator",data := .fields #[rawInt (n - 1),rawInt n,rawInt (-1)] }
theorem ES {z : Int} (h1 : -5000 <= z) (h2 : z <= 5000) : Builtin.Range.rangeFitsLong z = true := by
 unfold Builtin.Range.rangeFitsLong
 simp only [Bool.and_eq_true,decide_eq_true_eq]
 omega
theorem OJ (r : Addr) (n : Int) (t u v : Tok) (h0 : 0 <= n) (h1 : n <= 1000) :
  Meets (Builtin.«range.__reversed__» ⟨[.ref r],[]⟩) (fun _ R s => s.heap.get? r = some { cls := .type "range",dict := none,data := .fields #[.int 0 t,.int n u,.int 1 v],slots := #[] } /\ R (.ok (.ret (Value.ref s.heap.objs.size))) { s with heap := s.heap.push (C3 n),toks := s.toks }) :=
 .of_wp fun prog w A R s h => by
  obtain ⟨hp,g,d,tk,os⟩ := s; obtain ⟨hl,h⟩ := h
  have hn : Builtin.Range.rangeSize 0 n 1 = n := by rw [rangeSize_one]; split <;> omega
  have hsm : (Builtin.Range.rangeFitsLong 0 && Builtin.Range.rangeFitsLong n && Builtin.Range.rangeFitsLong 1 && Builtin.Range.rangeFitsLong (-1) && Builtin.Range.rangeFitsLong (0 - 1) && Builtin.Range.rangeFitsLong (Builtin.Range.rangeSize 0 n 1)) = true := by
   rw [hn,ES (by omega) (by omega),ES (by omega) (by omega),ES (by omega) (by omega),ES (by omega) (by omega),ES (by omega) (by omega)]; rfl
  wp_walk
  rw [hsm,hn]
  have e : (0 : Int) + (n - 1) * 1 = n - 1 := by omega
  rw [e]
  simp only [Bool.not_true,Bool.false_eq_true,if_false,if_true]
  wp_walk
  exact ⟨_,rfl,h⟩
theorem OK {l : Addr} {n : Int} {W : Value -> Shared -> Prop} (hl : IsRange s.heap l 0 n 1 t u v) (h0 : 0 <= n) (h1 : n <= 1000)
  (h : W (.ref s.heap.objs.size) { s with heap := s.heap.push (C3 n) }) : codeAny (model prog w) A (.call (.builtin "reversed.__new__") ⟨[.type "reversed",.ref l],[]⟩) (wants W E) s := by
 have ty : s.TypeIs (.ref l) "range" := ⟨_,hl,rfl⟩
 refine codeAny_call_builtin F.plain_reversed_new F.entry_reversed_new (wpAny_of_eq (F.newCall_reversed_1 (.ref l)) ?_)
 have cls := newClass_reversed (.ref l)
 have HX := F.slot_range_reversed.lookup
 have bound := F.slot_range_reversed.bind (.ref l)
 unfold Builtin.«reversed.__new__»
 wp_walk using wpAny_of_eq cls,wpAny_specialOf ty HX,wpAny_of_eq bound
 refine codeAny_mono (codeAny_call_builtin (R := fun r s' => r = .ok (.ret (.ref s.heap.objs.size)) /\ s' = { s with heap := s.heap.push (C3 n) }) F.slot_range_reversed.plain F.entry_range_reversed (F.slot_range_reversed.check _ _ _ _ _ _ _ _ ty (F.args_range_reversed_1 _) (OJ l n t u v h0 h1 prog w A.in1 (fun r s' => r = .ok (.ret (.ref s.heap.objs.size)) /\ s' = { s with heap := s.heap.push (C3 n) }) s ⟨hl,rfl,rfl⟩))) fun r s' hr => ?_
 obtain ⟨rfl,rfl⟩ := hr
 exact wpAny_pure h
theorem OL {l : Addr} {n : Int} {Q : Value -> Shared -> Prop} (hl : IsRange s.heap l 0 n 1 t u v) (h0 : 0 <= n) (h1 : n <= 1000)
  (h : Q (.ref s.heap.objs.size) { s with heap := s.heap.push (C3 n) }) : wpAny (model prog w) A (call (.type "reversed") [.ref l]) Q E s := by
 refine callType_other (U := "range_iterator") (Q₁ := fun obj s₁ => obj = .ref s.heap.objs.size /\ s₁ = { s with heap := s.heap.push (C3 n) }) (by decide +kernel) F.create_reversed ⟨_,_,F.mro_reversed⟩ F.made_reversed OI (F.typeCall_reversed_1 _) (OK hl h0 h1 ⟨rfl,rfl⟩) ?_
 rintro obj s₁ ⟨rfl,rfl⟩
 exact ⟨⟨_,Heap.get?_push_size _ rfl,rfl⟩,h⟩
end
section
variable {X : Cx} {tg : Expr}
def OM (ta : TA) : TI := fun σ H R => ta σ H fun vs H1 => ∃ n : Int,vs = [.int n] /\ 0 <= n /\ n <= 1000 /\ R (EL (n - 1) (-1) n.toNat) H1
theorem ON {a : Expr} {ta : TA} {p pos p2 pos2 : Pos} (hg0 : Gl X "reversed") (hm0 : X.mg "reversed" = none) (hg : Gl X "range") (hm : X.mg "range" = none) (ha : PA X [a] ta)
  (hs0 : starEach [.Call (.Name "range" p2) [a] [] pos2] X.env = [(false,eval (.Call (.Name "range" p2) [a] [] pos2) X.env)] := by rfl) (hs : starEach [a] X.env = [(false,eval a X.env)] := by rfl) :
  PI X tg (.Call (.Name "reversed" p) [.Call (.Name "range" p2) [a] [] pos2] [] pos) (OM ta) := by
 intro pins s σ H R I h
 refine Call_ (Cb I hg0 hm0 boot_reversed (PyProof.Rows.callWith_type1 (by
  rw [hs0]
  refine Calls.spliced_cons (Call_ (Cb I hg hm boot_range (PyProof.Rows.callWith_type1 (An (ha pos2 pins s σ H _ I h) fun us s1 ⟨vs,H1,I1,r1,q1⟩ => ?_) hs rfl)))
  obtain ⟨n,e,h0,hn,q⟩ := q1
  subst e
  cases r1 with
  | cons r rr =>
   cases rr
   obtain ⟨t,rfl⟩ := r
   refine call_range_1 (Calls.spliced_nil ?_)
   refine OL (IsRange.new ..) h0 hn ?_
   dsimp only
   have hz1 : (s1.heap.push { cls := .type "range",data := .fields #[.int 0 s1.toks,.int n t,.int 1 (s1.toks + 1)] }).objs.size = s1.heap.objs.size + 1 := Heap.size_push ..
   have kk : ∀ b ob,s1.heap.get? b = some ob -> ((s1.heap.push { cls := .type "range",data := .fields #[.int 0 s1.toks,.int n t,.int 1 (s1.toks + 1)] }).push (C3 n)).get? b = some ob := fun b ob q => Heap.get?_push_of_some _ (Heap.get?_push_of_some _ q)
   have hit : IsRangeIter ((s1.heap.push { cls := .type "range",data := .fields #[.int 0 s1.toks,.int n t,.int 1 (s1.toks + 1)] }).push (C3 n)) (s1.heap.objs.size + 1) (n - 1) n (-1) := by
    rw [<- hz1]; exact Heap.get?_push_size _ rfl
   rw [hz1]
   generalize (s1.heap.push { cls := .type "range",data := .fields #[.int 0 s1.toks,.int n t,.int 1 (s1.toks + 1)] }).push (C3 n) = h2 at kk hit
   refine wpAny_pyIter_rangeiter hit ⟨s1.heap.objs.size + 1,[s1.heap.objs.size + 1],_,_,H1,rfl,I1.kept (t' := _) kk,NE _ (n - 1) (-1) n.toNat,?_,fun b hb => ?_,q⟩
   ·have e1 : (n - 1) + ((0 : Nat) : Int) * (-1) = n - 1 := by omega
    have e2 : ((n.toNat : Nat) : Int) - ((0 : Nat) : Int) = n := by omega
    rw [e1,e2]; exact hit
   ·rw [List.mem_singleton.mp hb]; exact I1.fpOk (Nat.le_succ _) (I1.hok.fresh (Nat.le_succ _))) hs0 rfl))
def OO (i : Int) (te : TE) : TE := fun σ H Q => te σ H fun y H1 => ∀ d o,H1 d = none -> Q (.ref d) (upd H1 d (.frz o (.dK [(.inl i,y)])))
theorem Ae.trackN {pins : List (Addr × Obj)} {s : Shared} {h' : Heap} {tk : Nat} {u : HO} (I : Ae X pins σ H s) (hf : Bq X pins H a)
  (k : ∀ b o,b ≠ a -> s.heap.get? b = some o -> h'.get? b = some o) (ha : ∃ o,h'.get? a = some o) (ok : ObjOk X.prog X.w (upd H a u) h' a u) : Ae X pins σ (upd H a u) { s with heap := h',toks := tk } := by
 have hfr : H a = none := hf.1
 have nT : ∀ b u,H b = some u -> b ≠ a := fun b u e => Bd e hfr
 refine I.step (g' := s.gens) (d' := s.drawn) (ch := [a]) (fun b hb => by rw [List.mem_singleton.mp hb]; exact ⟨hf.2.2.2.1,hf.2.1,hf.2.2.2.2.1,hf.2.2.2.2.2⟩) (fun b o _ _ hc e _ => k b o (fun z => hc (by rw [z]; simp)) e) (fun b o _ _ hc e _ => ⟨o.slots,k b o (fun z => hc (by rw [z]; simp)) e⟩)
  (fun b o hc e n => by rw [Au (fun z => hc (by rw [z]; simp))]; exact n) (fun b o hc e => ⟨o,k b o (fun z => hc (by rw [z]; simp)) e⟩) (fun b xs e => by rw [Au (nT b _ e)]; exact e) (fun b o xs e => by rw [Au (nT b _ e)]; exact e) (fun b ps e => ⟨#[],by rw [Au (nT b _ e),e]; simp⟩) (fun m hm => ?_) (fun b v e => ?_) I.bare
 ·obtain ⟨o,es,ep,ho,r⟩ := hm
  exact ⟨o,es,ep,k _ o (fun z => hf.2.1 z.symm) ho,r⟩
 ·by_cases hb : b = a
  ·subst hb
   rw [Ai] at e; cases e
   exact ok
  ·rw [Au hb] at e
   refine (I.hok b v e).stay (fun c v hc q => k c v ?_ q) (fun c q => by rw [Au (nT c _ q)]; exact q) fun c xs q => by rw [Au (nT c _ q)]; exact q
   rcases hc with z | z
   ·rw [z]; exact hb
   ·exact nT c _ z
theorem OP {i : Int} {e : Expr} {pos p1 : Pos} {j1 : Nat} (he : PE X e te) : PE X (.Dict [some (.Constant (.int i) j1 p1)] [e] pos) (OO i te) := fun pins s σ H Q I h => by
 refine wpAny_Dict_walk (knd := Br X.prog X.w) rfl rfl (by simp) (by show 1 <= 15; decide) ?_
 refine pairTrees_cons_walk (wpAny_Constant_int ?_)
 dsimp only
 have hd0 : (s.heap.push { cls := .type "dict",data := .dict #[] }).get? s.heap.objs.size = some { cls := .type "dict",data := .dict #[] } := Heap.get?_push_size _ rfl
 have f0 : Bq X pins H s.heap.objs.size := I.fpOk (Nat.le_refl _) (I.hok.fresh (Nat.le_refl _))
 have I0 : Ae X pins σ H { s with heap := s.heap.push { cls := .type "dict",data := .dict #[] },toks := s.toks + 1 } := I.kept (t' := s.toks + 1) fun b o q => Heap.get?_push_of_some _ q
 have I0' : Ae X ((s.heap.objs.size,{ cls := .type "dict",data := .dict #[] }) :: pins) σ H { s with heap := s.heap.push { cls := .type "dict",data := .dict #[] },toks := s.toks + 1 } := I0.pins_of fun p hp => by
  rcases List.mem_cons.mp hp with rfl | hp
  ·exact ⟨hd0,f0.1,f0.2.1,f0.2.2.1,fun v z => by
    have z' : Data.dict #[] = Data.cell v := z
    cases z'⟩
  ·exact I0.pin p (List.mem_append_right _ hp)
 refine An (he _ _ σ H _ I0' h) fun u s1 ⟨y,H1,I1,ry,q⟩ => pairTrees_nil_walk ?_
 have pn := I1.pin (s.heap.objs.size,{ cls := .type "dict",data := .dict #[] }) (List.mem_append_right _ List.mem_cons_self)
 have I2 : Ae X pins σ H1 s1 := I1.pins_of fun p hp => I1.pin p (List.mem_append_right _ (List.mem_cons_of_mem _ hp))
 have f1 : Bq X pins H1 s.heap.objs.size := ⟨pn.2.1,f0.2.1,f0.2.2.1,f0.2.2.2.1,f0.2.2.2.2.1,f0.2.2.2.2.2⟩
 have dn : s1.heap.DictOf (Br X.prog X.w) s.heap.objs.size [] := Heap.DictOf.at (Heap.DictOf.new s.heap) fun o eo => by rw [hd0] at eo; cases eo; exact pn.1
 refine ⟨[(.inl i,u)],⟨Ip _ _ _ _,rfl,trivial⟩,dn,fun h' hm hsb => ?_⟩
 obtain ⟨o,es,ep,eo,r⟩ := id hm
 exact ⟨.ref s.heap.objs.size,_,I2.trackN (u := .frz o (.dK [(.inl i,y)])) (tk := _) f1 (fun b ob hb q => hsb.extBut b ob hb q) ⟨o,eo⟩ ⟨eo,by show 1 <= sizeLine; decide,beq_eq_false_iff_ne.mpr (Ne.symm (Nat.ne_of_lt I.big)),_,.cons ⟨rfl,ry⟩ .nil,hm⟩,rfl,q _ _ pn.2.1⟩
end
def Ka (J : It) (cap : List (Option Nat)) (g : TG) (tt : TT) (tk te : TE) (σ : St) (Q : KL -> Hp -> Prop) (H1 : Hp) : Prop :=
 ∃ W : Nat -> Nat -> KL -> Hp -> Prop,(∃ m,W 0 m [] H1) /\ ∀ i m ys H,W i m ys H ->
  (J.stop i H /\ Q ys H) \/
  (J.go i H /\ ys.length < sizeLine /\ ∃ N : KL -> Hp -> Prop, (∀ ys' H', N ys' H' -> ∃ m', m' < m /\ W (i + 1) m' ys' H') /\ ∀ x H', J.yld i H x H' -> g x (AK cap σ) H' fun σ2 H2 => Keep (AK cap σ) σ2 /\ tt σ2 H2 fun b H3 =>
   br b (tk σ2 H3 fun k H4 => te σ2 H4 fun y H5 => ∃ kk,k = kV kk /\ N (B1 ys kk y) H5) (N ys H3))
theorem OQ {J : It} {g : TG} {tk : TE} (n : Nat) (Pv : Nat -> KL -> Hp -> Prop) (hn : n <= 100000) (h0 : Pv 0 [] H) (hz : ∀ i ys H,Pv i ys H -> ys.length <= i)
  (hs : ∀ i ys H,i < n -> Pv i ys H -> J.go i H /\ ∀ x H',J.yld i H x H' -> g x (AK cap σ) H' fun σ2 H2 => Keep (AK cap σ) σ2 /\ tt σ2 H2 fun b H3 => br b (tk σ2 H3 fun k H4 => te σ2 H4 fun y H5 => ∃ kk,k = kV kk /\ Pv (i + 1) (B1 ys kk y) H5) (Pv (i + 1) ys H3))
  (hd : ∀ ys H,Pv n ys H -> J.stop n H /\ Q ys H) : Ka J cap g tt tk te σ Q H := by
 refine ⟨fun i m ys H => m = n - i /\ i <= n /\ Pv i ys H,⟨n,by simp,Nat.zero_le _,h0⟩,?_⟩
 rintro i m ys H ⟨rfl,hi,p⟩
 by_cases hlt : i < n
 ·obtain ⟨a,b⟩ := hs i ys H hlt p
  refine .inr ⟨a,?_,Pv (i + 1),fun ys' H' p' => ⟨n - (i + 1),by omega,rfl,hlt,p'⟩,b⟩
  have := hz i ys H p
  have : (100000 : Nat) < sizeLine := by decide
  omega
 ·have e : i = n := by omega
  subst e
  exact .inl (hd ys H p)
theorem OR {K : PySem.W.Frag} {xs : List V} {g : TG} {tk : TE} (Pv : Nat -> KL -> Hp -> Prop) (hn : xs.length <= 100000) (h0 : Pv 0 [] H) (hz : ∀ i ys H,Pv i ys H -> ys.length <= i)
  (hl : ∀ i ys H,i <= xs.length -> Pv i ys H -> Ad K H a xs)
  (hs : ∀ i x ys H,xs[i]? = some x -> Pv i ys H -> g x (AK cap σ) H fun σ2 H2 => Keep (AK cap σ) σ2 /\ tt σ2 H2 fun b H3 => br b (tk σ2 H3 fun k H4 => te σ2 H4 fun y H5 => ∃ kk,k = kV kk /\ Pv (i + 1) (B1 ys kk y) H5) (Pv (i + 1) ys H3))
  (hd : ∀ ys H,Pv xs.length ys H -> Q ys H) : Ka (Dw K a) cap g tt tk te σ Q H :=
 OQ xs.length Pv hn h0 hz (fun i ys H hi p => ⟨⟨xs,xs[i],hl i ys H (Nat.le_of_lt hi) p,by simp [hi]⟩,fun x H' ⟨e,y⟩ => by subst e; exact hs i x ys _ (y xs (hl i ys _ (Nat.le_of_lt hi) p)) p⟩)
  fun ys H p => ⟨⟨xs,hl _ ys H (Nat.le_refl _) p,Nat.le_refl _⟩,hd ys H p⟩
end L2
end
section
namespace L2
open PySem PySem.Spec PyProof.Rows SeqAt
def OrdAt (op : CmpOp) (A : Around) (s : Shared) (y x : Value) (b : Bool) : Prop :=
 ∀ (P : Program) (w : World) (E Q : Value -> Shared -> Prop),Q (.bool b) s -> wpAny (model P w) A (richCompare op y x) Q E s
inductive C4 (op : CmpOp) (A : Around) (s : Shared) (last : Bool) : List (Value × Value) -> Bool -> Prop
 | none : C4 op A s last [] last
 | same {x y : Value} {ps : List (Value × Value)} {r : Bool} : EqAt A s x y true -> C4 op A s last ps r -> C4 op A s last ((x,y) :: ps) r
 | unlike {x y : Value} {ps : List (Value × Value)} {r : Bool} : EqAt A s x y false -> OrdAt op A s x y r -> C4 op A s last ((x,y) :: ps) r
theorem OrdAt.gtI {A : Around} {s : Shared} (a b : Int) (t u : Tok) : OrdAt .Gt A s (.int a t) (.int b u) (decide (a > b)) := fun P w E Q h =>
 CmpOf.ints_gt (P := fun i v => v = if i = 0 then Value.int a t else Value.int b u) (fun i => if i = 0 then a else b) (fun i v e => by
  by_cases z : i = 0
  ·rw [if_pos z] at e ⊢; exact ⟨t,e⟩
  ·rw [if_neg z] at e ⊢; exact ⟨u,e⟩) 0 1 _ _ s Q E rfl rfl h
theorem OS (l b : Addr) (xs ys : Array Value) (n m : Nat) (d1 d2 : Option Addr) (s1 s2 : Array (Option Value)) (r : Bool) :
  Meets (Builtin.«tuple.__gt__» ⟨[.ref l,.ref b],[]⟩) (fun A R s => s.heap.get? l = some { cls := .type "tuple",dict := d1,data := .seq xs n,slots := s1 } /\ s.heap.get? b = some { cls := .type "tuple",dict := d2,data := .seq ys m,slots := s2 } /\ C4 .Gt A.in1 s (decide (xs.size > ys.size)) (xs.toList.zip ys.toList) r /\ R (.ok (.ret (.bool r))) s) :=
 .of_wp fun P w A R s hyp => by
  obtain ⟨hp,g,d,tk,os⟩ := s
  obtain ⟨hl,hb,told,fin⟩ := hyp
  have tt := AutoSeq1.sub_tuple_tuple
  wp_walk using AutoSeq1.wpAny_loadPart' hl,AutoSeq1.wpAny_loadPart' hb,wpAny_forIn_list _ (fun left st s' => st.1 = none /\ s' = ⟨hp,g,d,tk,os⟩ /\ C4 .Gt A.in1 ⟨hp,g,d,tk,os⟩ (decide (xs.size > ys.size)) left r) _
  case turn =>
   rintro ⟨x,y⟩ left st s' ⟨_,rfl,told⟩
   cases told with
   | same e more =>
    refine wpAny_bind (e P w _ _ ?_)
    wp_walk
    exact ⟨rfl,rfl,more⟩
   | unlike e o =>
    refine wpAny_bind (e P w _ _ ?_)
    unfold OrdAt at o
    wp_walk using o P w _ _
    exact ⟨_,rfl,fin⟩
  case fin =>
   rintro ⟨st1,st2⟩ s' ⟨hs,rfl,told⟩
   replace hs : st1 = _ := hs
   subst hs
   cases told
   wp_walk
   exact ⟨_,rfl,fin⟩
  case h => exact ⟨rfl,rfl,told⟩
theorem OrdAt.gtT {A : Around} {s : Shared} {l b : Addr} {xs ys : Array Value} {r : Bool} (hl : IsTup s.heap l xs) (hb : IsTup s.heap b ys) (hu : A.units < cLine) (told : C4 .Gt A.in1 s (decide (xs.size > ys.size)) (xs.toList.zip ys.toList) r) : OrdAt .Gt A s (.ref l) (.ref b) r := fun P w E Q h => by
 obtain ⟨⟨c1,d1,t1,s1⟩,o1,e1,n,f1⟩ := hl
 obtain ⟨⟨c2,d2,t2,s2⟩,o2,e2,m,f2⟩ := hb
 cases e1; cases f1; cases e2; cases f2
 exact richCompare_meets_room (op := .Gt) ⟨_,o1,rfl⟩ ⟨_,o2,rfl⟩ F.slot_tuple_gt F.entry_tuple_gt (F.args_tuple_gt_2 _ _) (OS l b xs ys n m d1 d2 s1 s2 r) ⟨o1,o2,told,(fun z => nomatch z),h⟩ hu
end L2
end
section
namespace L2
open PySem PySem.Spec PyProof.Rows SeqAt
variable {bt : Value -> Value -> Bool}
def CM (bt : Value -> Value -> Bool) : Option Value -> Value -> Option Value
 | none,v => some v
 | some b,v => if bt v b then some v else some b
def HP : Option Value -> Array Value
 | none => #[]
 | some b => #[b,b]
abbrev HQ (c : Array Value) (k : Nat) : Obj := { cls := .type "list",dict := none,data := .seq c k,slots := #[] }
def ET (h0 h : Heap) : Prop := ∀ b o,h0.get? b = some o -> h.get? b = some o
theorem HR (o : Option Value) : (HP o).size <= sizeLine := by cases o <;> (first | exact (show 0 <= sizeLine by decide) | exact (show 2 <= sizeLine by decide))
theorem OT {o : Option Value} {v : Value} : CM bt o v ≠ none := by
 cases o with
 | none => intro z; cases z
 | some b =>
  show (if bt v b then some v else some b) ≠ none
  cases bt v b <;> (intro z; cases z)
theorem OU {P : Program} {w : World} {A : Around} {R : Result -> Shared -> Prop} {I S : Addr} {fp wr : List Addr} {vs : List Value} {St : Nat -> Heap -> Prop} {h0 : Heap} {bt : Value -> Value -> Bool}
  (W : Walks P w A.in1 I fp wr vs.length (fun i v => vs[i]? = some v) St) (nS : S ∉ fp) (oS : h0.get? S = none) (ow : ∀ b ∈ wr,h0.get? b = none)
  (cmp : ∀ x y s,x ∈ vs -> y ∈ vs -> ET h0 s.heap -> OrdAt .Gt A.in1 s x y (bt x y)) :
  ∀ (k j : Nat) (s : Shared) (old : Option Value) (c : Nat),vs.length - j = k -> j <= vs.length -> St j s.heap -> ET h0 s.heap -> s.heap.get? S = some (HQ (HP old) c) -> (∀ b,old = some b -> b ∈ vs) -> (old = none -> j < vs.length) ->
   (∀ v h tk,(vs.drop j).foldl (CM bt) old = some v -> (∀ b o,b ∉ wr -> b ≠ S -> s.heap.get? b = some o -> h.get? b = some o) -> R (.ok (.ret v)) { s with heap := h,toks := tk }) ->
   codeAny (model P w) A (.builtin "max.loop" ⟨[.ref I,.none,.ref S],[]⟩) R s := by
 have nw : S ∉ wr := fun z => nS (W.sub _ z)
 have again' : (toString "max" ++ toString ".loop" : String) = "max.loop" := by decide
 have apart : ∀ {b : Addr} {o : Obj},h0.get? b = some o -> b ∉ wr /\ b ≠ S := fun {b o} e => ⟨fun z => (by rw [ow b z] at e; cases e),fun z => (by rw [z,oS] at e; cases e)⟩
 intro k
 induction k with
 | zero =>
  intro j s old c hk hj st held at' mem some' fin
  obtain rfl : j = vs.length := by omega
  cases old with
  | none => exact absurd (some' rfl) (Nat.lt_irrefl _)
  | some b =>
   refine codeAny_builtin F.entry_max_loop ?_
   rw [Around.under_plainId F.plain_max_loop _]
   show wpAny _ A.in1 (seqItems? (.ref S) >>= _) _ _ s
   refine wpAny_bind (wpAny_seqItems at' rfl ?_)
   show wpAny _ A.in1 (tryCatch (pyNext (.ref I)) _ >>= _) _ _ s
   refine wpAny_bind (wpAny_tryCatch (W.done s _ _ st fun h1 tk kept => ?_))
   show wpAny _ A.in1 (updateSeq S (fun _ => #[]) >>= _) _ _ _
   refine wpAny_bind (wpAny_updateSeq (hz := HR _) (kept S _ nw at') rfl (wpAny_bind (wpAny_letGo (wpAny_pure ?_))))
   exact fin b _ tk (by rw [List.drop_length]; rfl) fun a o ha hS e => (Heap.get?_update_other _ _ (Ne.symm hS)).trans (kept a o ha e)
 | succ k ih =>
  intro j s old c hk hj st held at' mem some' fin
  have lt : j < vs.length := by omega
  have dr : vs.drop j = vs[j] :: vs.drop (j + 1) := List.drop_eq_getElem_cons lt
  refine codeAny_builtin F.entry_max_loop ?_
  rw [Around.under_plainId F.plain_max_loop _]
  show wpAny _ A.in1 (seqItems? (.ref S) >>= _) _ _ s
  refine wpAny_bind (wpAny_seqItems at' rfl ?_)
  show wpAny _ A.in1 (tryCatch (pyNext (.ref I)) _ >>= _) _ _ s
  refine wpAny_bind (wpAny_tryCatch (W.item j s _ _ lt st fun v h1 tk got st1 kept => ?_))
  have ev : v = vs[j] := by rw [List.getElem?_eq_getElem lt] at got; exact (Option.some.inj got).symm
  have mv : v ∈ vs := by rw [ev]; exact List.getElem_mem lt
  have at1 := kept S _ nw at'
  have held1 : ET h0 h1 := fun b o e => kept b o (apart e).1 (held b o e)
  have next : ∀ (h2 : Heap) (tk2 c2 : Nat),h2.get? S = some (HQ (HP (CM bt old v)) c2) -> (∀ b o,b ≠ S -> h1.get? b = some o -> h2.get? b = some o) ->
    codeAny (model P w) A (.builtin "max.loop" ⟨[.ref I,.none,.ref S],[]⟩) R { s with heap := h2,toks := tk2 } := fun h2 tk2 c2 at2 k2 => by
   refine ih (j + 1) { s with heap := h2,toks := tk2 } (CM bt old v) c2 (by omega) lt (W.frame _ _ _ st1 fun b hb o e => k2 b o (fun z => nS (by rw [<- z]; exact hb)) e) (fun b o e => k2 b o (apart e).2 (held1 b o e)) at2 (fun b e => ?_) (fun e => absurd e OT) fun u h3 tk3 e k3 => fin u h3 tk3 (by rw [dr,List.foldl_cons,<- ev]; exact e) fun b o hb hS q => k3 b o hb hS (k2 b o hS (kept b o hb q))
   cases old with
   | none => cases e; exact mv
   | some b0 =>
    have e' : (if bt v b0 then some v else some b0) = some b := e
    split at e'
    ·cases e'; exact mv
    ·cases e'; exact mem _ rfl
  cases old with
  | none =>
   show wpAny _ A.in1 (updateSeq S (fun _ => #[v,v]) >>= _) _ _ _
   refine wpAny_bind (wpAny_updateSeq (hz := HR _) at1 rfl ?_)
   rw [again']
   exact wpAny_pure ⟨plainId_quiet F.plain_max_loop _,next _ tk _ (Heap.get?_update_self _ at1 rfl) fun b o hb e => (Heap.get?_update_other _ _ (Ne.symm hb)).trans e⟩
  | some b =>
   show wpAny _ A.in1 (tryCatch (holding [v,v] (richCompare .Gt v b >>= _)) _ >>= _) _ _ _
   refine wpAny_bind (wpAny_tryCatch (wpAny_holding (wpAny_bind (cmp v b _ mv (mem b rfl) held1 P w _ _ ?_))))
   refine wpAny_bind (wpAny_holding (wpAny_truthy_bool (wpAny_bind (wpAny_letGo (wpAny_pure ?_)))))
   cases up : bt v b with
   | true =>
    have eb : CM bt (some b) v = some v := (show (if bt v b then some v else some b) = _ from by rw [up]; rfl)
    rw [if_pos rfl]
    refine wpAny_bind (wpAny_updateSeq (hz := HR _) at1 rfl (wpAny_bind (wpAny_letGo ?_)))
    rw [again']
    exact wpAny_pure ⟨plainId_quiet F.plain_max_loop _,next _ tk _ (by rw [eb]; exact Heap.get?_update_self _ at1 rfl) fun b o hb e => (Heap.get?_update_other _ _ (Ne.symm hb)).trans e⟩
   | false =>
    have eb : CM bt (some b) v = some b := (show (if bt v b then some v else some b) = _ from by rw [up]; rfl)
    rw [if_neg Bool.false_ne_true]
    refine wpAny_bind (wpAny_letGo ?_)
    rw [again']
    exact wpAny_pure ⟨plainId_quiet F.plain_max_loop _,next h1 tk c (by rw [eb]; exact at1) fun b o hb e => e⟩
theorem OV {P : Program} {w : World} {A : Around} {E Q : Value -> Shared -> Prop} {s : Shared} {l : Addr} {vs : List Value} (hh : A.handled = none) (hl : s.heap.IsList l vs.toArray) (ne : vs ≠ [])
  (cmp : ∀ x y s',x ∈ vs -> y ∈ vs -> ET s.heap s'.heap -> OrdAt .Gt A.in1 s' x y (bt x y))
  (fin : ∀ v h tk,vs.foldl (CM bt) none = some v -> (∀ b o,s.heap.get? b = some o -> h.get? b = some o) -> Q v { s with heap := h,toks := tk }) : wpAny (model P w) A (call (.builtin "max") [.ref l]) Q E s := by
 have again' : (toString "max" ++ toString ".loop" : String) = "max.loop" := by decide
 refine call_function_tree F.kind_max F.plain_max F.entry_max (F.args_max1 _) ?_
 show wpAny _ A.in1 (Builtin.Builtins.bindParams "max" ["key","default"] 0 ⟨[],[]⟩ >>= _) _ _ s
 refine wpAny_bind (wpAny_of_eq (a := [none,none]) rfl (wpAny_bind (wpAny_pure (wpAny_bind ?_))))
 obtain ⟨ol,eol,_⟩ := id hl
 have lt := Heap.lt_size eol
 refine wpAny_pyIter_list hl (wpAny_bind (wpAny_newObj_type ?_))
 rw [again']
 dsimp only
 have z1 : (s.heap.push { cls := .type "list_iterator",data := .fields #[.ref l,.int 0 0] }).objs.size = s.heap.objs.size + 1 := Heap.size_push ..
 have new0 : ∀ a,s.heap.objs.size <= a -> s.heap.get? a = none := fun a ha => by
  cases e : s.heap.get? a with
  | none => rfl
  | some o => exact absurd (Heap.lt_size e) (Nat.not_lt.mpr ha)
 have kk : ∀ b o,s.heap.get? b = some o -> ((s.heap.push { cls := .type "list_iterator",data := .fields #[.ref l,.int 0 0] }).push (HQ #[] 0)).get? b = some o := fun b o e => Heap.get?_push_of_some _ (Heap.get?_push_of_some _ e)
 have sz : vs.toArray.size = vs.length := by simp
 have W := Walks.list (prog := P) (w := w) (A := A.in1) hh s.heap.objs.size l (Nat.ne_of_lt lt) vs.toArray
 have eP : (fun (i : Nat) (v : Value) => vs.toArray[i]? = some v) = (fun i v => vs[i]? = some v) := by funext i v; simp
 rw [sz,eP] at W
 rw [z1]
 refine wpAny_pure ⟨plainId_quiet F.plain_max_loop _,OU (h0 := s.heap) (bt := bt) (S := s.heap.objs.size + 1) W (fun z => by
  rcases List.mem_cons.mp z with z | z
  ·exact absurd z (Nat.succ_ne_self _)
  ·exact absurd (List.mem_singleton.mp z) (Nat.ne_of_gt (Nat.lt_succ_of_lt lt))) (new0 _ (Nat.le_succ _)) (fun b hb => by rw [List.mem_singleton.mp hb]; exact new0 _ (Nat.le_refl _)) cmp vs.length 0 _ none 0 rfl (Nat.zero_le _) ?_ kk (by rw [<- z1]; exact Heap.get?_push_size _ rfl) (fun b e => nomatch e) (fun _ => List.length_pos_iff.mpr ne) fun v h tk e k2 => fin v h tk e fun b o q => k2 b o (fun z => by rw [List.mem_singleton.mp z,new0 _ (Nat.le_refl _)] at q; cases q) (fun z => by rw [z,new0 _ (Nat.le_succ _)] at q; cases q) (kk b o q)⟩
 exact ⟨⟨_,Heap.get?_push_of_some _ (Heap.get?_push_size _ rfl),rfl,rfl⟩,hl.at fun o e => kk _ o e⟩
end L2
end
section
namespace L2
open PySem PySem.Spec PyProof.Rows SeqAt
inductive Cmp : PyData -> PyData -> Prop
 | int (a b : Int) : Cmp (.int a) (.int b)
 | row (as bs : List Int) : Cmp (.tuple (as.map .int)) (.tuple (bs.map .int))
def Kb : ∀ (as : List Int),PyData.canLayAll0 (as.map .int) = true /\ PyData.hasDictAll (as.map .int) = false /\ PyData.depthAll (as.map .int) = 0
 | [] => ⟨rfl,rfl,rfl⟩
 | a :: as => by
  obtain ⟨h1,h2,h3⟩ := Kb as
  refine ⟨?_,?_,?_⟩
  ·show PyData.canLayAll0 (.int a :: as.map .int) = true
   unfold PyData.canLayAll0; rw [h1]; rfl
  ·show PyData.hasDictAll (.int a :: as.map .int) = false
   unfold PyData.hasDictAll; rw [h2]; rfl
  ·show PyData.depthAll (.int a :: as.map .int) = 0
   unfold PyData.depthAll; rw [h3]; rfl
theorem Cmp.left {d e : PyData} (h : Cmp d e) : d.canLay0 = true /\ d.hasDict = false /\ d.depth <= 1 := by
 cases h with
 | int a b => exact ⟨rfl,rfl,Nat.zero_le _⟩
 | row as bs =>
  obtain ⟨h1,h2,h3⟩ := Kb as
  refine ⟨?_,?_,?_⟩
  ·unfold PyData.canLay0; exact h1
  ·unfold PyData.hasDict; exact h2
  ·unfold PyData.depth; rw [h3]; exact Nat.le_refl _
theorem Cmp.symm {d e : PyData} (h : Cmp d e) : Cmp e d := by
 cases h with
 | int a b => exact .int b a
 | row as bs => exact .row bs as
theorem EU {h : Heap} : ∀ {us : List Value} {ds : List PyData} {as : List Addr},ReadsAll h us ds as -> us.length = ds.length
 | _,_,_,.nil => rfl
 | _,_,_,.cons _ t => by rw [List.length_cons,List.length_cons,EU t]
theorem Ek {h : Heap} {u : Value} {ds : List PyData} {as : List Addr} (r : Reads h u (.tuple ds) as) : ∃ a vs,u = .ref a /\ IsTup h a vs.toArray /\ ReadsAll h vs ds as := by
 cases r with
 | tuple e c d ra => exact ⟨_,_,rfl,⟨_,e,c,_,by rw [d]⟩,ra⟩
theorem HS {bt : Value -> Value -> Bool} {f : Value -> Int} {S : Value -> Prop} (h1 : ∀ x y,S x -> S y -> bt x y = true -> f y <= f x) (h2 : ∀ x y,S x -> S y -> bt x y = false -> f x <= f y) : ∀ (l : List Value) (b v : Value),S b -> (∀ x ∈ l,S x) -> l.foldl (CM bt) (some b) = some v -> (v = b \/ v ∈ l) /\ f b <= f v /\ ∀ x ∈ l,f x <= f v
 | [],b,v,_,_,e => by cases e; exact ⟨.inl rfl,Int.le_refl _,fun x hx => nomatch hx⟩
 | y :: l,b,v,sb,sl,e => by
  rw [List.foldl_cons] at e
  have e' : l.foldl (CM bt) (if bt y b then some y else some b) = some v := e
  have sy := sl y List.mem_cons_self
  have sl' : ∀ x ∈ l,S x := fun x hx => sl x (List.mem_cons_of_mem _ hx)
  cases c : bt y b with
  | true =>
   rw [c,if_pos rfl] at e'
   obtain ⟨m,a,q⟩ := HS h1 h2 l y v sy sl' e'
   refine ⟨.inr (m.elim (fun z => by rw [z]; exact List.mem_cons_self) fun z => List.mem_cons_of_mem _ z),Int.le_trans (h1 y b sy sb c) a,fun x hx => ?_⟩
   rcases List.mem_cons.mp hx with rfl | hx
   ·exact a
   ·exact q x hx
  | false =>
   rw [c,if_neg Bool.false_ne_true] at e'
   obtain ⟨m,a,q⟩ := HS h1 h2 l b v sb sl' e'
   refine ⟨m.elim .inl fun z => .inr (List.mem_cons_of_mem _ z),a,fun x hx => ?_⟩
   rcases List.mem_cons.mp hx with rfl | hx
   ·exact Int.le_trans (h2 x b sy sb c) a
   ·exact q x hx
def F1 (last : Bool) : List Int -> List Int -> Bool
 | a :: as,b :: bs => if a = b then F1 last as bs else decide (a > b)
 | _,_ => last
theorem Kc {A : Around} {s : Shared} {last : Bool} : ∀ {as bs : List Int} {us ws : List Value} {x y : List Addr},ReadsAll s.heap us (as.map .int) x -> ReadsAll s.heap ws (bs.map .int) y -> C4 .Gt A s last (us.zip ws) (F1 last as bs)
 | [],_,_,_,_,_,r,_ => by cases r; exact .none
 | _ :: _,[],_,_,_,_,r,q => by cases q; rw [List.zip_nil_right]; exact .none
 | a :: as,b :: bs,us,ws,x,y,r,q => by
  cases r with
  | cons r1 r2 =>
   cases q with
   | cons q1 q2 =>
    cases r1 with
    | int i t =>
     cases q1 with
     | int j u =>
      rw [List.zip_cons_cons]
      unfold F1
      split
      ·rename_i e
       subst e
       refine .same ?_ (Kc r2 q2)
       have := EqAt.int_int (A := A) (s := s) a t a u
       simpa using this
      ·rename_i e
       refine .unlike ?_ (OrdAt.gtI a b t u)
       have := EqAt.int_int (A := A) (s := s) a t b u
       rw [show (a == b) = false from by simpa using e] at this
       exact this
def HU (d e : PyData) : Bool := match d,e with
 | .int a,.int b => decide (a > b)
 | .tuple xs,.tuple ys => F1 (decide (xs.length > ys.length)) (xs.filterMap fun | .int i => some i | _ => none) (ys.filterMap fun | .int i => some i | _ => none)
 | _,_ => false
theorem HV : ∀ (as : List Int),((as.map PyData.int).filterMap fun | .int i => some i | _ => none) = as
 | [] => rfl
 | a :: as => by rw [List.map_cons,List.filterMap_cons]; simp only; rw [HV as]
theorem OW {A : Around} {s : Shared} {d e : PyData} {u v : Value} {x y : List Addr} (h : Cmp d e) (r : Reads s.heap u d x) (q : Reads s.heap v e y) (hu : A.units < cLine) : OrdAt .Gt A s u v (HU d e) := by
 cases h with
 | int a b =>
  cases r with
  | int i t =>
   cases q with
   | int j t' => exact OrdAt.gtI a b t t'
 | row as bs =>
  obtain ⟨a,us,rfl,hl,ra⟩ := Ek r
  obtain ⟨b,ws,rfl,hb,rb⟩ := Ek q
  have l1 : us.length = as.length := by have := EU ra; rw [List.length_map] at this; exact this
  have l2 : ws.length = bs.length := by have := EU rb; rw [List.length_map] at this; exact this
  refine OrdAt.gtT hl hb hu ?_
  have := Kc (A := A.in1) (last := decide (us.length > ws.length)) ra rb
  unfold HU
  dsimp only
  rw [HV,HV,List.length_map,List.length_map,<- l1,<- l2]
  simpa using this
def El (last : Bool) : List PyData -> List PyData -> Bool
 | d :: ds,e :: es => if PyData.eqv d e then El last ds es else HU d e
 | _,_ => last
theorem Kd {A : Around} {s : Shared} {last : Bool} (hu : A.units + 5 < cLine) : ∀ {ds es : List PyData} {us ws : List Value} {x y : List Addr},Paired Cmp ds es -> ReadsAll s.heap us ds x -> ReadsAll s.heap ws es y -> C4 .Gt A s last (us.zip ws) (El last ds es)
 | _,_,_,_,_,_,.nil,r,q => by cases r; exact .none
 | d :: ds,e :: es,us,ws,x,y,.cons c t,r,q => by
  cases r with
  | cons r1 r2 =>
   cases q with
   | cons q1 q2 =>
    rw [List.zip_cons_cons]
    obtain ⟨c1,c2,c3⟩ := c.left
    obtain ⟨e1,e2,e3⟩ := c.symm.left
    have eq := eqAt_reads d e A s _ _ _ _ r1 q1 c1 e1 (by omega)
    unfold El
    cases z : PyData.eqv d e with
    | true => rw [z] at eq; exact .same eq (Kd hu t r2 q2)
    | false => rw [z] at eq; exact .unlike eq (OW c r1 q1 (by omega))
theorem Ke {X : Cx} {k : Nat} (hc : X.calm = true) (hr : Bf k X.A) : BL X (.builtin "max") (fun xs H Q => ∃ (p l : Addr) (fs : List (Int × List PyData)) (vs : List V),xs = [.ref l] /\ H l = some (.lst vs) /\ Ac p H (fs.map fun q => .tuple (.int q.1 :: q.2)) vs /\ fs ≠ [] /\ (∀ q ∈ fs,∀ q' ∈ fs,Paired Cmp q.2 q'.2) /\
  ∀ (i : Nat) q v,fs[i]? = some q -> vs[i]? = some v -> (∀ q' ∈ fs,q'.1 <= q.1) -> Q v H) := by
 intro pins s σ H xs us Q I r h
 obtain ⟨p,l,fs,vs,rfl,hl,rs,ne,cm,q⟩ := h
 obtain ⟨u,rfl,ru⟩ := r.one
 cases ru
 obtain ⟨its,rv,pl,hz⟩ := I.list (Am.of hl)
 have un := hr.un
 have lv := rv.length
 have lf := rs.len
 rw [List.length_map] at lf
 -- what each value reads
 have rd : ∀ (i : Nat) (x : Value),its[i]? = some x -> ∃ q v as,fs[i]? = some q /\ vs[i]? = some v /\ Ay v x /\ Reads s.heap x (.tuple (.int q.1 :: q.2)) as := fun i x hx => by
  have hi := (List.getElem?_eq_some_iff.mp hx).1
  have hf : fs[i]? = some fs[i] := List.getElem?_eq_getElem (by omega)
  obtain ⟨v,hv,rep⟩ := rs.get (i := i) (d := .tuple (.int (fs[i]).1 :: (fs[i]).2)) (by rw [List.getElem?_map,hf]; rfl)
  obtain ⟨x',hx',rx⟩ := rv.get hv
  rw [hx] at hx'; cases hx'
  have mem := List.getElem_mem (l := fs) (n := i) (by omega)
  have nd : (PyData.tuple (.int (fs[i]).1 :: (fs[i]).2)).hasDict = false := by
   have := cm _ mem _ mem
   generalize (fs[i]).2 = ds at this
   have all : ∀ {ds es : List PyData},Paired Cmp ds es -> PyData.hasDictAll ds = false := by
    intro ds es t
    induction t with
    | nil => rfl
    | cons c _ ih => unfold PyData.hasDictAll; rw [c.left.2.1,ih]; rfl
   unfold PyData.hasDict PyData.hasDictAll
   rw [all this]; rfl
  obtain ⟨as,rr⟩ := Aa.reads I _ v x nd rep rx
  exact ⟨_,v,as,hf,hv,rx,rr⟩
 have get : ∀ x ∈ its,∃ q as,q ∈ fs /\ Reads s.heap x (.tuple (.int q.1 :: q.2)) as := fun x hx => by
  obtain ⟨i,hi⟩ := List.getElem?_of_mem hx
  obtain ⟨q,v,as,hf,_,_,r⟩ := rd i x hi
  exact ⟨q,as,List.mem_of_getElem? hf,r⟩
 -- the first number of a value
 have first : ∀ x,∃ n : Int,∀ (q : Int) (ds : List PyData) (as : List Addr),Reads s.heap x (.tuple (.int q :: ds)) as -> q = n := fun x => by
  by_cases z : ∃ (q : Int) (ds : List PyData) (as : List Addr),Reads s.heap x (.tuple (.int q :: ds)) as
  ·obtain ⟨q,ds,as,r⟩ := z
   refine ⟨q,fun q' ds' as' r' => ?_⟩
   obtain ⟨a,us,rfl,hl1,ra⟩ := Ek r
   obtain ⟨b,ws,e,hl2,rb⟩ := Ek r'
   cases e
   obtain ⟨o1,g1,c1,n1,d1⟩ := hl1
   obtain ⟨o2,g2,c2,n2,d2⟩ := hl2
   rw [g1] at g2; cases g2
   rw [d1] at d2
   have : us = ws := by injection d2 with d2 _; simpa using d2
   subst this
   cases ra with
   | cons a1 _ =>
    cases rb with
    | cons b1 _ => cases a1; cases b1; rfl
  ·exact ⟨0,fun q ds as r => absurd ⟨q,ds,as,r⟩ z⟩
 obtain ⟨f,hf⟩ := Classical.axiomOfChoice first
 have ex : ∀ z : Value × Value,∃ b : Bool,(z.1 ∈ its -> z.2 ∈ its -> ∀ s' : Shared,ET s.heap s'.heap -> OrdAt .Gt X.A.in1 s' z.1 z.2 b) /\ (b = true -> z.1 ∈ its -> z.2 ∈ its -> f z.2 <= f z.1) /\ (b = false -> z.1 ∈ its -> z.2 ∈ its -> f z.1 <= f z.2) := fun z => by
  by_cases m1 : z.1 ∈ its
  ·by_cases m2 : z.2 ∈ its
   ·obtain ⟨q1,a1,k1,r1⟩ := get _ m1
    obtain ⟨q2,a2,k2,r2⟩ := get _ m2
    have e1 := hf z.1 q1.1 q1.2 a1 r1
    have e2 := hf z.2 q2.1 q2.2 a2 r2
    have pc : Paired Cmp (.int q1.1 :: q1.2) (.int q2.1 :: q2.2) := .cons (.int _ _) (cm q1 k1 q2 k2)
    refine ⟨El (decide ((PyData.int q1.1 :: q1.2).length > (PyData.int q2.1 :: q2.2).length)) (.int q1.1 :: q1.2) (.int q2.1 :: q2.2),fun _ _ s' held => ?_,fun b _ _ => ?_,fun b _ _ => ?_⟩
    ·obtain ⟨c1,us,ez1,h1,ra⟩ := Ek (Reads.keeps held r1)
     obtain ⟨c2,ws,ez2,h2,rb⟩ := Ek (Reads.keeps held r2)
     rw [ez1,ez2]
     refine OrdAt.gtT h1 h2 (by simp only [Around.in1_units]; omega) ?_
     have l1 := EU ra
     have l2 := EU rb
     have := Kd (A := X.A.in1.in1) (s := s') (last := decide ((PyData.int q1.1 :: q1.2).length > (PyData.int q2.1 :: q2.2).length)) (by simp only [Around.in1_units]; omega) pc ra rb
     rw [<- l1,<- l2] at this ⊢
     simpa using this
    ·unfold El at b
     by_cases z : q1.1 = q2.1
     ·omega
     ·rw [if_neg (by unfold PyData.eqv; simpa using z)] at b
      have b' : decide (q1.1 > q2.1) = true := b
      have := of_decide_eq_true b'
      omega
    ·unfold El at b
     by_cases z : q1.1 = q2.1
     ·omega
     ·rw [if_neg (by unfold PyData.eqv; simpa using z)] at b
      have b' : decide (q1.1 > q2.1) = false := b
      have := of_decide_eq_false b'
      omega
   ·exact ⟨true,fun _ m => absurd m m2,fun _ _ m => absurd m m2,fun z => nomatch z⟩
  ·exact ⟨true,fun m => absurd m m1,fun _ m => absurd m m1,fun z => nomatch z⟩
 obtain ⟨bt,hbt⟩ := Classical.axiomOfChoice ex
 have nei : its ≠ [] := fun z => ne (List.eq_nil_of_length_eq_zero (by rw [z] at lv; have l0 : vs.length = 0 := lv; omega))
 refine OV (bt := fun x y => bt (x,y)) (I.ok.hd hc) pl.isList nei (fun x y s' mx my held => (hbt (x,y)).1 mx my s' held) fun v h tk e kept => ?_
 obtain ⟨b0,rest,eits⟩ : ∃ b r,its = b :: r := by
  cases its with
  | nil => exact absurd rfl nei
  | cons b r => exact ⟨b,r,rfl⟩
 have e' : rest.foldl (CM fun x y => bt (x,y)) (some b0) = some v := by rw [eits,List.foldl_cons] at e; exact e
 -- outside of the list the answers don't matter
 have best := HS (S := fun x => x ∈ its) (bt := fun x y => bt (x,y)) (f := f) (fun x y hx hy b => (hbt (x,y)).2.1 b hx hy) (fun x y hx hy b => (hbt (x,y)).2.2 b hx hy) rest b0 v (by rw [eits]; exact List.mem_cons_self) (fun x hx => by rw [eits]; exact List.mem_cons_of_mem _ hx) e'
 obtain ⟨mv,f0,fr⟩ := best
 have mv' : v ∈ its := by
  rw [eits]
  rcases mv with z | z
  ·rw [z]; exact List.mem_cons_self
  ·exact List.mem_cons_of_mem _ z
 have all : ∀ x ∈ its,f x <= f v := fun x hx => by
  rw [eits] at hx
  rcases List.mem_cons.mp hx with rfl | hx
  ·exact f0
  ·exact fr x hx
 obtain ⟨i,hi⟩ := List.getElem?_of_mem mv'
 obtain ⟨qq,vv,as,hfq,hvv,rx,rr⟩ := rd i v hi
 refine ⟨vv,H,I.kept kept,rx,q i qq vv hfq hvv fun q' hq' => ?_⟩
 obtain ⟨j,hj⟩ := List.getElem?_of_mem hq'
 have hj' := (List.getElem?_eq_some_iff.mp hj).1
 obtain ⟨q2,v2,as2,hf2,_,_,r2⟩ := rd j its[j] (List.getElem?_eq_getElem (by omega))
 rw [hj] at hf2; cases hf2
 have := all its[j] (List.getElem_mem _)
 rw [<- hf v qq.1 qq.2 as rr,<- hf its[j] q'.1 q'.2 as2 r2] at this
 omega
end L2
end
section
namespace MF
open PySem PySem.Spec PyProof.Rows L2
variable {p : Addr} {H : Hp} {T : TM} {kvs ks : KL} {k : AT} {v : V} {q : AT × V}
def Dn (T : TM) : Nat -> List Int -> Int
 | _,[] => 0
 | h,p :: r => Bg T h p (r.headD 0) + Dn T (h + 1) r
def DM (T : TM) (ps : List Int) : Prop := ∀ x ∈ ps,x ∈ 0 :: T.co
structure OneTail (T : TM) (h : Nat) (x f : Int) (ps : List Int) : Prop where
 len : ps.length = T.ds.length - h
 val : f = Dn T h ps
 hd : ps.headD 0 = x
 as : DM T ps
 top : ∀ qs : List Int,qs.length = T.ds.length - h -> DM T qs -> qs.headD 0 = x -> Dn T h qs <= f
def DN (T : TM) (h : Nat) (x : Int) : Prop := if h = T.ds.length then x = 0 else x ∈ 0 :: T.co
structure Cp (T : TM) (f : Int) (ps : List Int) : Prop where
 val : f = CA T ps
 len : ps.length = T.ds.length
 as : DM T ps
 top : ∀ qs : List Int,qs.length = T.ds.length -> DM T qs -> CA T qs <= f
abbrev Ch (f : Int) (ps : List Int) : PyData := .tuple [.int f,AH ps]
structure TailsAt (p : Addr) (H : Hp) (T : TM) (h : Nat) (kvs : KL) : Prop where
 one : ∀ q ∈ kvs,∃ x f ps,q.1 = .inl x /\ Aa p H (Ch f ps) q.2 /\ OneTail T h x f ps
 all : ∀ x,DN T h x -> ∃ q ∈ kvs,q.1 = .inl x
theorem TailsAt.same {H' : Hp} {h : Nat} (t : TailsAt p H T h kvs) (s : Ab H H') : TailsAt p H' T h kvs :=
 ⟨fun q hq => by
  obtain ⟨x,f,ps,e,r,o⟩ := t.one q hq
  exact ⟨x,f,ps,e,Aa.ev (Ev.same s) _ _ r,o⟩,t.all⟩
theorem OX (h : q ∈ B1 ks k v) : q ∈ ks \/ q = (k,v) := by
 unfold B1 at h
 split at h
 ·obtain ⟨q0,h0,e⟩ := List.mem_map.mp h
  split at e
  ·rename_i z
   exact .inr (by rw [<- e,z])
  ·exact .inl (by rw [<- e]; exact h0)
 ·rcases List.mem_append.mp h with h | h
  ·exact .inl h
  ·exact .inr (List.mem_singleton.mp h)
theorem OY : ∃ q ∈ B1 ks k v,q.1 = k := by
 unfold B1
 split
 ·rename_i z
  obtain ⟨q,hq,e⟩ := List.any_eq_true.mp z
  have e' : q.1 = k := of_decide_eq_true e
  exact ⟨_,List.mem_map.mpr ⟨q,hq,rfl⟩,by rw [if_pos e']; exact e'⟩
 ·exact ⟨(k,v),List.mem_append_right _ (List.mem_singleton.mpr rfl),rfl⟩
theorem OZ (h : q ∈ ks) : ∃ q' ∈ B1 ks k v,q'.1 = q.1 := by
 unfold B1
 split
 ·refine ⟨_,List.mem_map.mpr ⟨q,h,rfl⟩,?_⟩
  split <;> rfl
 ·exact ⟨q,List.mem_append_left _ h,rfl⟩
theorem Kf {T : TM} {h : Nat} {ps : List Int} (hl : ps.length = T.ds.length - h) (ha : DM T ps) (hh : h <= T.ds.length) : DN T h (ps.headD 0) := by
 unfold DN
 split
 ·cases ps with
  | nil => rfl
  | cons a r => rw [List.length_cons] at hl; omega
 ·cases ps with
  | nil => rw [List.length_nil] at hl; omega
  | cons a r => exact ha a List.mem_cons_self
theorem O0 (r : Aa p H (Ch 0 []) v) : TailsAt p H T T.ds.length [(.inl 0,v)] := by
 refine ⟨fun q hq => ?_,fun x hx => ?_⟩
 ·rw [List.mem_singleton.mp hq]
  refine ⟨0,0,[],rfl,r,by simp,rfl,rfl,fun _ h => (nomatch h),fun qs hl _ _ => ?_⟩
  cases qs with
  | nil => exact Int.le_refl _
  | cons a r => simp at hl
 ·unfold DN at hx
  rw [if_pos rfl] at hx
  subst hx
  exact ⟨_,List.mem_singleton.mpr rfl,rfl⟩
theorem OneTail.step {n : Nat} (t : TailsAt p H T (n + 1) kvs) (hn : n < T.ds.length) {x b f : Int} {ps : List Int} (hx : x ∈ 0 :: T.co) (o : OneTail T (n + 1) b f ps)
  (top : ∀ b' f' ps',OneTail T (n + 1) b' f' ps' -> (∃ q ∈ kvs,q.1 = .inl b' /\ Aa p H (Ch f' ps') q.2) -> Bg T n x b' + f' <= Bg T n x b + f) : OneTail T n x (Bg T n x b + f) (x :: ps) := by
 refine ⟨by rw [List.length_cons,o.len]; omega,?_,rfl,fun y hy => ?_,fun qs hl ha hh => ?_⟩
 ·show _ = Bg T n x (ps.headD 0) + Dn T (n + 1) ps
  rw [o.hd,o.val]
 ·rcases List.mem_cons.mp hy with rfl | hy
  ·exact hx
  ·exact o.as y hy
 ·cases qs with
  | nil => rw [List.length_nil] at hl; omega
  | cons a r =>
   have ea : a = x := hh
   subst ea
   have lr : r.length = T.ds.length - (n + 1) := by rw [List.length_cons] at hl; omega
   have ar : DM T r := fun y hy => ha y (List.mem_cons_of_mem _ hy)
   obtain ⟨q,hq,eq⟩ := t.all _ (Kf lr ar (by omega))
   obtain ⟨b',f',ps',e1,r1,o1⟩ := t.one q hq
   rw [eq] at e1
   have e1' : r.headD 0 = b' := by injection e1
   subst e1'
   have h1 := o1.top r lr ar rfl
   have h2 := top _ f' ps' o1 ⟨q,hq,eq,r1⟩
   show Bg T n a (r.headD 0) + Dn T (n + 1) r <= _
   omega
theorem Kg {g : Nat -> Int} : ∀ n,((List.range (n + 1)).map g).sum = g 0 + ((List.range n).map fun i => g (i + 1)).sum := fun n => by
 rw [List.range_succ_eq_map,List.map_cons,List.sum_cons,List.map_map]; rfl
theorem Kh (r : List Int) : r.headD 0 = r.getD 0 0 := by cases r <;> rfl
theorem Ki : ∀ (ps : List Int) (h : Nat),Dn T h ps = ((List.range ps.length).map fun i => Bg T (h + i) (ps.getD i 0) (ps.getD (i + 1) 0)).sum
 | [],h => rfl
 | p :: r,h => by
  show Bg T h p (r.headD 0) + Dn T (h + 1) r = _
  rw [Ki r (h + 1),List.length_cons,Kg,Kh]
  have e : (fun i => Bg T (h + (i + 1)) ((p :: r).getD (i + 1) 0) ((p :: r).getD (i + 1 + 1) 0)) = (fun i => Bg T (h + 1 + i) (r.getD i 0) (r.getD (i + 1) 0)) := by
   funext i
   rw [show h + (i + 1) = h + 1 + i by omega]; rfl
  rw [e]; rfl
theorem Kj (ps : List Int) : Dn T 0 ps - ps.headD 0 * T.st = CA T ps := by
 rw [Ki,Kh]
 unfold CA CK
 congr 3
 funext i
 rw [Nat.zero_add]
theorem O1 (t : TailsAt p H T 0 kvs) {x f : Int} {ps : List Int} (o : OneTail T 0 x f ps) (top : ∀ x' f' ps',OneTail T 0 x' f' ps' -> (∃ q ∈ kvs,q.1 = .inl x' /\ Aa p H (Ch f' ps') q.2) -> f' - x' * T.st <= f - x * T.st) : Cp T (f - x * T.st) ps := by
 refine ⟨?_,by have := o.len; omega,o.as,fun qs hl ha => ?_⟩
 ·rw [<- Kj,<- o.val,o.hd]
 ·obtain ⟨q,hq,eq⟩ := t.all _ (Kf (h := 0) (by omega) ha (by omega))
  obtain ⟨x',f',ps',e1,r1,o1⟩ := t.one q hq
  rw [eq] at e1
  have e1' : qs.headD 0 = x' := by injection e1
  subst e1'
  have h1 := o1.top qs (by omega) ha rfl
  have h2 := top _ f' ps' o1 ⟨q,hq,eq,r1⟩
  rw [<- Kj]
  omega
end MF
namespace MF
open PySem PySem.Spec PyProof.Rows L2
def F2 (p : Addr) (H : Hp) (T : TM) (n : Nat) (g : Int -> Int -> Int) (hd : List Int -> List Int) (q0 : AT × V) (fq : Int × List PyData) : Prop := ∃ b f ps,q0.1 = .inl b /\ Aa p H (Ch f ps) q0.2 /\ OneTail T n b f ps /\ fq = (g b f,[AH (hd ps)])
end MF
end
section
namespace MF
open PySem PySem.Spec PyProof.Rows L2
variable {T U : TM}
theorem O2 {n f l : Nat} (h : f <= l) (hl : l < n) : (f,l) ∈ B7 n n := by
 unfold B7
 refine List.mem_flatten.mpr ⟨Cz f (n - f),List.mem_map.mpr ⟨f,List.mem_range.mpr (by omega),rfl⟩,?_⟩
 unfold Cz
 exact List.mem_map.mpr ⟨l - f,List.mem_range.mpr (by omega),by show (f,f + (l - f)) = (f,l); rw [show f + (l - f) = l by omega]⟩
theorem no_str : AO T = none ↔ ∀ f l,f <= l -> l < T.ds.length -> Bv T f l = false := by
 unfold AO
 rw [List.head?_eq_none_iff]
 unfold Dm
 rw [List.filter_eq_nil_iff]
 constructor
 ·intro h f l hf hl
  have := h (f,l) (O2 hf hl)
  simpa using this
 ·intro h q hq
  obtain ⟨h1,h2⟩ := HK (Nat.le_refl _) q hq
  rw [h q.1 q.2 h1 h2]
  exact Bool.false_ne_true
theorem HW : ∀ {xs ys : List Int},xs.length = ys.length -> (∀ i,xs.getD i 0 <= ys.getD i 0) -> xs.sum <= ys.sum
 | [],[],_,_ => Int.le_refl _
 | [],_ :: _,h,_ => by simp at h
 | _ :: _,[],h,_ => by simp at h
 | x :: xs,y :: ys,h,g => by
  have h0 : x <= y := g 0
  have := HW (xs := xs) (ys := ys) (by simpa using h) fun i => g (i + 1)
  rw [List.sum_cons,List.sum_cons]
  omega
theorem Kk {α : Type} {xs : List α} {f l i : Nat} {d : α} : (part xs f l).getD i d = if i < l + 1 - f then xs.getD (f + i) d else d := by
 unfold part
 rw [List.getD_eq_getElem?_getD,List.getElem?_take]
 split
 ·rw [List.getElem?_drop,List.getD_eq_getElem?_getD]
 ·rfl
theorem Kl {xs ys : List Int} {f l : Nat} (h : xs.length = ys.length) (g : ∀ i,xs.getD i 0 <= ys.getD i 0) : (part xs f l).sum <= (part ys f l).sum := by
 refine HW (by unfold part; rw [List.length_take,List.length_take,List.length_drop,List.length_drop,h]) fun i => ?_
 rw [Kk,Kk]
 split
 ·exact g _
 ·exact Int.le_refl _
theorem O3 {f l : Nat} (hd : T.ds.length = U.ds.length) (d : ∀ i,U.ds.getD i 0 <= T.ds.getD i 0) (hc : T.cs.length = U.cs.length) (c : ∀ i,(T.cs.getD i []).sum <= (U.cs.getD i []).sum) (s : T.st <= U.st) (h : T.hi <= U.hi) (lo : U.lo <= T.lo) (no : Bv T f l = false) : Bv U f l = false := by
 unfold Bv at no ⊢
 have no' := of_decide_eq_false no
 refine decide_eq_false fun z => no' ?_
 have h1 : Ei U f l <= Ei T f l := Kl hd.symm d
 have h2 : most T f l <= most U f l := by
  unfold most
  rw [<- Eh,<- Eh]
  refine Kl (by rw [List.length_map,List.length_map,hc]) fun i => ?_
  have e : ∀ V : TM,(V.cs.map List.sum).getD i 0 = (V.cs.getD i []).sum := fun V => by
   rw [List.getD_eq_getElem?_getD,List.getElem?_map,List.getD_eq_getElem?_getD]
   cases V.cs[i]? <;> rfl
  rw [e,e]
  exact c i
 split at z <;> split <;> omega
theorem O4 (hd : T.ds.length = U.ds.length) (d : ∀ i,U.ds.getD i 0 <= T.ds.getD i 0) (hc : T.cs.length = U.cs.length) (c : ∀ i,(T.cs.getD i []).sum <= (U.cs.getD i []).sum) (s : T.st <= U.st) (h : T.hi <= U.hi) (lo : U.lo <= T.lo) (no : AO T = none) : AO U = none :=
 no_str.mpr fun f l hf hl => O3 hd d hc c s h lo (no_str.mp no f l hf (by omega))
end MF
end
section
namespace MF
open PySem PySem.Spec PyProof.Rows L2
structure DfC (K : PySem.W.Frag) (mg : Str -> Option Value) (x : Str) (st : Stmt) (ps : List Str) (c : Addr) : Prop where
 ex : ∃ (f : Addr) (fd : FuncData),Ox K x x st f fd c /\ mg x = some (.ref f) /\ PySem.W.keepIn K (.ref f) = true /\ Binds K fd ps []
structure Gr (T : TM) (f : List (List Int)) (ms : List Int) : Prop where
 lf : f.length = T.ds.length
 row : ∀ i,i < f.length -> (f.getD i []).length = T.co.length
 bd : ∀ i b,i < f.length -> b < T.co.length -> 0 <= (f.getD i []).getD b 0 /\ (f.getD i []).getD b 0 <= (T.cs.getD i []).getD b 0
 lm : ms.length = T.ds.length
 ms : ∀ k,k < ms.length -> ms.getD k 0 = (if k = 0 then T.st else ms.getD (k - 1) 0) + (f.getD k []).sum - T.ds.getD k 0
end MF
end
section
namespace L2
open PySem PySem.Spec PyProof.Rows
section
variable {prog : Program} {w : World} {A : Around} {R : Result -> Shared -> Prop} {I : Addr} {fp wr : List Addr} {n : Nat} {P : Nat -> Value -> Prop} {St : Nat -> Heap -> Prop}
end
section
variable {prog : Program} {w : World} {A : Around} {E : Value -> Shared -> Prop} {s : Shared}
end
end L2
end
section
namespace MF
open PySem PySem.Spec PyProof.Rows L2
def C5 (p f cap co : Int) : Int := if co < p then (p - co) * (cap - f) else (co - p) * f
theorem O5 (p f cap co : Int) : co * f - p * f - B8 p (cap,co) = C5 p f cap co := by
 unfold C5 B8
 dsimp only
 by_cases c : co < p
 ·rw [if_pos c,if_pos c,Int.mul_sub,Int.sub_mul,Int.mul_sub,Int.mul_sub,Int.mul_comm cap co,Int.mul_comm cap p]; omega
 ·rw [if_neg c,if_neg c,Int.sub_mul]; omega
theorem O6 {p f cap co : Int} (h0 : 0 <= f) (h1 : f <= cap) : 0 <= C5 p f cap co := by
 unfold C5
 split
 ·exact Int.mul_nonneg (by omega) (by omega)
 ·exact Int.mul_nonneg (by omega) h0
def Do (p : Int) : List Int -> List Int -> List Int -> Int
 | f :: fs,c :: cs,o :: os => C5 p f c o + Do p fs cs os
 | _,_,_ => 0
def C6 : List Int -> List Int -> Int
 | f :: fs,o :: os => o * f + C6 fs os
 | _,_ => 0
theorem Km (p : Int) : ∀ (fs cs os : List Int),fs.length = os.length -> cs.length = os.length -> C6 fs os - p * fs.sum - spared cs os p = Do p fs cs os
 | [],[],[],_,_ => by
  show (0 : Int) - p * 0 - 0 = 0
  rw [Int.mul_zero]; rfl
 | f :: fs,c :: cs,o :: os,h1,h2 => by
  have ih := Km p fs cs os (Nat.succ.inj h1) (Nat.succ.inj h2)
  have e := O5 p f c o
  show o * f + C6 fs os - p * (f + fs.sum) - (B8 p (c,o) + spared cs os p) = C5 p f c o + Do p fs cs os
  rw [Int.mul_add]
  omega
 | [],_ :: _,os,h1,h2 => by rw [<- h1] at h2; cases h2
 | _ :: _,[],os,h1,h2 => by rw [<- h2] at h1; cases h1
 | [],[],_ :: _,h1,_ => by cases h1
 | _ :: _,_ :: _,[],h1,_ => by cases h1
theorem Kn {p : Int} : ∀ {fs cs os : List Int},(∀ b,b < os.length -> 0 <= fs.getD b 0 /\ fs.getD b 0 <= cs.getD b 0) -> 0 <= Do p fs cs os
 | f :: fs,c :: cs,o :: os,h => by
  have h0 := h 0 (Nat.succ_pos _)
  have ih := Kn (p := p) (fs := fs) (cs := cs) (os := os) fun b hb => h (b + 1) (Nat.succ_lt_succ hb)
  have := O6 (p := p) (co := o) h0.1 h0.2
  show 0 <= C5 p f c o + Do p fs cs os
  have e : C5 p ((f :: fs).getD 0 0) ((c :: cs).getD 0 0) o = C5 p f c o := rfl
  omega
 | [],_,_,_ => Int.le_refl _
 | _ :: _,[],_,_ => Int.le_refl _
 | _ :: _,_ :: _,[],_ => Int.le_refl _
def DO (lo hi p b m : Int) : Int := (p - b) * (m - (if b < p then lo else hi))
theorem O7 (lo hi p b m : Int) : (p - b) * m - CJ lo hi p b = DO lo hi p b m := by
 unfold DO CJ
 rw [<- Int.mul_sub]
theorem O8 {lo hi p b m : Int} (h0 : lo <= m) (h1 : m <= hi) : 0 <= DO lo hi p b m := by
 unfold DO
 split
 ·exact Int.mul_nonneg (by omega) (by omega)
 ·exact Int.mul_nonneg_of_nonpos_of_nonpos (by omega) (by omega)
def EV (T : TM) (ns : List Int) (F : List (List Int)) (m bl : Nat -> Int) (h : Nat) : Int := Do (ns.getD h 0) (F.getD h []) (T.cs.getD h []) T.co + DO T.lo T.hi (ns.getD h 0) (ns.getD (h + 1) 0) (m (h + 1)) + ns.getD h 0 * bl h
def Em (T : TM) (ns : List Int) (F : List (List Int)) (m bl : Nat -> Int) : Nat -> Int
 | 0 => 0
 | k + 1 => Em T ns F m bl k + EV T ns F m bl k
def Ci (T : TM) (F : List (List Int)) : Nat -> Int
 | 0 => 0
 | k + 1 => Ci T F k + C6 (F.getD k []) T.co
theorem Ko {T : TM} {ns : List Int} {F : List (List Int)} {m bl : Nat -> Int} {n : Nat} (lf : ∀ h,h < n -> (F.getD h []).length = T.co.length) (lc : ∀ h,h < n -> (T.cs.getD h []).length = T.co.length)
  (bal : ∀ h,h < n -> m (h + 1) = m h + (F.getD h []).sum - T.ds.getD h 0 - bl h) : ∀ k,k <= n -> Ci T F k - CK T ns k = Em T ns F m bl k + ns.getD k 0 * m k - ns.getD 0 0 * m 0
 | 0,_ => by
  show (0 : Int) - 0 = 0 + ns.getD 0 0 * m 0 - ns.getD 0 0 * m 0
  omega
 | k + 1,hk => by
  have ih := Ko lf lc bal k (by omega) (ns := ns)
  have e1 := Km (ns.getD k 0) (F.getD k []) (T.cs.getD k []) T.co (lf k (by omega)) (lc k (by omega))
  have e2 := O7 T.lo T.hi (ns.getD k 0) (ns.getD (k + 1) 0) (m (k + 1))
  have b := bal k (by omega)
  rw [HL]
  show Ci T F k + C6 (F.getD k []) T.co - (CK T ns k + Bg T k (ns.getD k 0) (ns.getD (k + 1) 0)) = Em T ns F m bl k + EV T ns F m bl k + ns.getD (k + 1) 0 * m (k + 1) - ns.getD 0 0 * m 0
  unfold Bg EV
  have b2 : ns.getD k 0 * m (k + 1) = ns.getD k 0 * m k + ns.getD k 0 * (F.getD k []).sum - ns.getD k 0 * T.ds.getD k 0 - ns.getD k 0 * bl k := by rw [b,Int.mul_sub,Int.mul_sub,Int.mul_add]
  rw [Int.sub_mul] at e2
  omega
theorem Kp {T : TM} {ns : List Int} {F : List (List Int)} {m bl : Nat -> Int} {n : Nat} (g : ∀ h,h < n -> 0 <= EV T ns F m bl h) : ∀ k,k <= n -> 0 <= Em T ns F m bl k
 | 0,_ => Int.le_refl _
 | k + 1,hk => by
  have := Kp g k (by omega)
  have := g k (by omega)
  show 0 <= Em T ns F m bl k + EV T ns F m bl k
  omega
theorem Kq (f g : Nat -> Int) : ∀ n,((List.range n).map fun b => f b + g b).sum = ((List.range n).map f).sum + ((List.range n).map g).sum
 | 0 => rfl
 | n + 1 => by
  have ih := Kq f g n
  simp only [List.range_succ,List.map_append,List.sum_append,List.map_cons,List.map_nil,List.sum_cons,List.sum_nil]
  omega
theorem O9 {α : Type} {bs : List α} (xs : Nat -> Int) (g : α -> Int) (d : α) : ((((List.range bs.length).map xs).zip bs).map fun q => q.1 * g q.2).sum = ((List.range bs.length).map fun b => xs b * g (bs.getD b d)).sum := by
 refine congrArg List.sum (List.ext_getElem ?_ fun i h1 h2 => ?_)
 ·simp
 ·have hi : i < bs.length := by simpa using h2
  simp [List.getElem_zip,List.getD_eq_getElem?_getD,hi]
theorem Kr : ∀ (r co : List Int),r.length = co.length -> C6 r co = ((List.range co.length).map fun b => co.getD b 0 * r.getD b 0).sum
 | [],[],_ => rfl
 | f :: r,o :: co,h => by
  have ih := Kr r co (Nat.succ.inj h)
  rw [List.length_cons,Kg]
  show o * f + C6 r co = o * f + _
  rw [ih]
  rfl
 | [],_ :: _,h => by cases h
 | _ :: _,[],h => by cases h
theorem Ks {P : PL} {S : SY} {F : List (List Int)} (hr : ∀ h,h < F.length -> (F.getD h []).length = P.bs.length) : ∀ k,k <= F.length -> Ci (terms P S) F k = ((List.range P.bs.length).map fun b => ((F.take k).map fun r => r.getD b 0).sum * (P.bs.getD b (0,0)).2).sum
 | 0,_ => by
  show (0 : Int) = _
  have : (fun b => (((F.take 0).map fun r => r.getD b 0).sum : Int) * (P.bs.getD b (0,0)).2) = fun _ => 0 := funext fun b => by rw [List.take_zero,List.map_nil,List.sum_nil,Int.zero_mul]
  rw [this]
  induction P.bs.length with
  | zero => rfl
  | succ n ih => rw [List.range_succ,List.map_append,List.sum_append,<- ih]; rfl
 | k + 1,hk => by
  have ih := Ks (S := S) hr k (by omega)
  have gk : F[k]? = some (F.getD k []) := by rw [List.getD_eq_getElem?_getD,List.getElem?_eq_getElem (by omega)]; rfl
  show Ci (terms P S) F k + C6 (F.getD k []) (terms P S).co = _
  have lco : (terms P S).co.length = P.bs.length := by show (P.bs.map (·.2)).length = _; rw [List.length_map]
  rw [ih,Kr _ _ (by rw [hr k (by omega),lco]),lco,<- Kq]
  refine congrArg List.sum (List.map_congr_left fun b hb => ?_)
  have hb' := List.mem_range.mp hb
  rw [A2 gk,List.map_append,List.sum_append]
  have e1 : (terms P S).co.getD b 0 = (P.bs.getD b (0,0)).2 := by
   show (P.bs.map (·.2)).getD b 0 = _
   rw [List.getD_eq_getElem?_getD,List.getElem?_map,List.getElem?_eq_getElem hb',List.getD_eq_getElem?_getD,List.getElem?_eq_getElem hb']; rfl
  rw [e1,Int.add_mul]
  show _ + (P.bs.getD b (0,0)).2 * (F.getD k []).getD b 0 = _ + ((F.getD k []).getD b 0 + 0) * (P.bs.getD b (0,0)).2
  rw [Int.add_zero,Int.mul_comm ((F.getD k []).getD b 0)]
theorem Pa {P : PL} {S : SY} {F : List (List Int)} (hr : ∀ h,h < F.length -> (F.getD h []).length = P.bs.length) : Ci (terms P S) F F.length = coal P F := by
 rw [Ks hr _ (Nat.le_refl _),List.take_length]
 unfold coal BA
 exact (O9 (fun b => (F.map fun r : List Int => r.getD b 0).sum) (fun q : Int × Int => q.2) (0,0)).symm
structure GoodAt (P : PL) (S : SY) (F : List (List Int)) (ns : List Int) (h : Nat) : Prop where
 b : ∀ b,b < P.bs.length -> ((P.bs.getD b (0,0)).2 < ns.getD h 0 -> (F.getD h []).getD b 0 = ((caps P S).getD h []).getD b 0) /\ (ns.getD h 0 < (P.bs.getD b (0,0)).2 -> (F.getD h []).getD b 0 = 0)
 up : ns.getD h 0 < ns.getD (h + 1) 0 -> AN P S F (h + 1) = P.hi
 dn : ns.getD (h + 1) 0 < ns.getD h 0 -> AN P S F (h + 1) = P.lo
 bl : 0 < ns.getD h 0 -> CI P.hi (Bp P S F h) = 0
structure Pb (T : TM) (f : List (List Int)) (ms : List Int) (h : Nat) (ps : List Int) : Prop where
 len : ps.length = T.ds.length
 as : DM T ps
 z : ∀ k,h < k -> ps.getD k 0 = 0
 b : ∀ k b,k < T.ds.length -> b < T.co.length -> (T.co.getD b 0 < ps.getD k 0 -> (f.getD k []).getD b 0 = (T.cs.getD k []).getD b 0) /\ (ps.getD k 0 < T.co.getD b 0 -> (f.getD k []).getD b 0 = 0)
 up : ∀ k,k < h -> ps.getD k 0 < ps.getD (k + 1) 0 -> ms.getD k 0 = T.hi
 dn : ∀ k,k < h -> ps.getD (k + 1) 0 < ps.getD k 0 -> ms.getD k 0 = T.lo
 hi : ∀ k,k < T.ds.length -> ms.getD k 0 <= T.hi
 mon : ∀ k,h <= k -> k + 1 < T.ds.length -> ms.getD (k + 1) 0 <= ms.getD k 0
def HX (t : List (Int × Int)) (k : Int) : Option Int := (t.find? fun q => decide (q.1 = k)).map (·.2)
structure Mn (L : Int × Int -> Prop) (t : List (Int × Int)) : Prop where
 snd : ∀ q ∈ t,L q
 cmp : ∀ q,L q -> ∃ w,HX t q.1 = some w /\ w <= q.2
 nd : (t.map (·.1)).Nodup
def Att (cs os : List Int) (k : Nat) (q : Int × Int) : Prop := ∃ r : List Int,r.length = k /\ (∀ b,b < k -> 0 <= r.getD b 0 /\ r.getD b 0 <= cs.getD b 0) /\ q = (r.sum,C6 r (os.take k))
theorem Pc {P : PL} {S : SY} {F : List (List Int)} (fo : FOk P S F) : Ci (terms P S) F S.ex.length = coal P F := by
 have := Pa (P := P) (S := S) (F := F) fun h hh => fo.row h _ (by rw [List.getD_eq_getElem?_getD,List.getElem?_eq_getElem hh]; rfl)
 rw [fo.len] at this; exact this
end MF
end
section
namespace L2
open PySem PySem.Spec PyProof.Rows
def Zd (H : Hp) (Ts : List Addr) (xs ys : List V) : Prop := ∀ (j : Nat) (T : Addr) (x y : V),Ts[j]? = some T -> xs[j]? = some x -> ys[j]? = some y -> H T = some (.tup [x,y])
structure LzS {X : Cx} (S1 S2 : A5 X.prog X.w X.K) (pins : List (Addr × Obj)) (σ : St) (z TI TO i1 i2 l1 l2 S : Addr) (xs ys : List V) (i : Nat) (s : Shared) (H : Hp) (Ts : List Addr) (c : Nat) : Prop where
 I : Ae X pins σ H s
 fp : ∀ b ∈ [z,TI,TO,i1,i2,S],Bq X pins H b
 z : D3 s.heap z TI TO
 ti : Ba s.heap TI (.ref i1) (.ref i2)
 to : ∃ a b,Ba s.heap TO a b
 i1 : S1.It s.heap i1 l1 i
 i2 : S2.It s.heap i2 l2 i
 s1 : S1.Sq H l1 xs
 s2 : S2.Sq H l2 ys
 l : s.heap.get? S = some { cls := .type "list",dict := none,data := .seq (Ts.map Value.ref).toArray c,slots := #[] }
 n : Ts.length = i
 zd : Zd H Ts xs ys
section
variable {prog : Program} {w : World} {A : Around} {s : Shared} {R : Result -> Shared -> Prop} {E : Value -> Shared -> Prop}
structure NilAt (S : Addr) (g g' : Heap) : Prop where
 it : ∃ c,g'.get? S = some { cls := .type "list",dict := none,data := .seq #[] c,slots := #[] }
 kp : Oa S g g'
 sz : g'.objs.size = g.objs.size
end
set_option maxHeartbeats 8000000 in
theorem Pd (P : Program) (w : World) (K : PySem.W.Frag) : D6 (EJ P w K) (BP P w K) := fun l1 l2 xs1 xs2 =>
 .of_wp fun prog w A R s h => by
  obtain ⟨hp,g,d,tk,os⟩ := s; obtain ⟨hl1,hl2,h⟩ := h; have hsub := sub_zip
  have hL1 : Heap.IsList (Shared.heap ⟨hp,g,d,tk,os⟩) l1 xs1 := hl1
  have hL2 : Heap.IsTuple (Shared.heap ⟨(hp).push { cls := .type "list_iterator",data := .fields #[.ref l1,.int 0 0] },g,d,tk,os⟩) l2 xs2 := Heap.IsTuple.push (hl2) _
  wp_walk using wpAny_pyIter_list hL1,wpAny_pyIter_tuple hL2
  exact ⟨_,rfl,h⟩
theorem Pe (P : Program) (w : World) (K : PySem.W.Frag) {X : Cx} {es : List Expr} {k : Nat} {p pos pos' : Pos} {e1 e2 : Expr} {ta : TA} (hg : Gl X "zip") (hm : X.mg "zip" = none) (ha : PA X [e1,e2] ta) (hP : X.prog = P := by rfl) (hw : X.w = w := by rfl) (hK : X.K = K := by rfl)
  (hs : starEach [e1,e2] X.env = [(false,eval e1 X.env),(false,eval e2 X.env)] := by rfl) (hs2 : starEach [e2] X.env = [(false,eval e2 X.env)] := by rfl) :
  PI X (.Tuple es k pos') (.Call (.Name "zip" p) [e1,e2] [] pos) (D7 (EJ P w K) (BP P w K) ta) := by subst hP hw hK; exact Hw _ _ (Pd _ _ _) hg hm ha hs hs2
end L2
end
section
namespace MF
open PySem PySem.Spec PyProof.Rows L2
def mx (a b : Int) : Int := if a < b then b else a
def Kt (T : TM) : Nat -> Int
 | 0 => T.lo
 | j + 1 => mx T.lo (Kt T j + T.ds.getD (T.ds.length - 1 - j) 0 - (T.cs.getD (T.ds.length - 1 - j) []).sum)
def lz (T : TM) (j : Nat) : Int := Kt T (T.ds.length - j)
theorem Pf {T : TM} : lz T T.ds.length = T.lo := by unfold lz; rw [Nat.sub_self]; rfl
theorem F3 {T : TM} {j : Nat} (h : j < T.ds.length) : lz T j = mx T.lo (lz T (j + 1) + T.ds.getD j 0 - (T.cs.getD j []).sum) := by
 unfold lz
 rw [show T.ds.length - j = (T.ds.length - (j + 1)) + 1 from by omega]
 show mx T.lo _ = _
 rw [show T.ds.length - 1 - (T.ds.length - (j + 1)) = j from by omega]
theorem Pg {a b : Int} : a <= mx a b := by unfold mx; split <;> omega
theorem Ku {a b : Int} : b <= mx a b := by unfold mx; split <;> omega
theorem Ph {a b c : Int} (h1 : a <= c) (h2 : b <= c) : mx a b <= c := by unfold mx; split <;> omega
theorem Kv {T : TM} : ∀ {j : Nat},T.lo <= lz T j := by
 intro j
 unfold lz
 cases T.ds.length - j with
 | zero => exact Int.le_refl _
 | succ k => exact Pg
end MF
end
section
namespace MF
open PySem PySem.Spec PyProof.Rows L2
variable {α : Type} {xs : List α} {T : TM}
theorem Kw {f l : Nat} (h : f <= l) (hl : l < xs.length) : part xs f l = xs[f]'(by omega) :: part xs (f + 1) l := by
 unfold part
 rw [List.drop_eq_getElem_cons (show f < xs.length by omega),show l + 1 - f = (l + 1 - (f + 1)) + 1 from by omega,List.take_succ_cons]
theorem Kx {f : Nat} : part xs (f + 1) f = [] := by unfold part; simp
def sm (T : TM) (f l : Nat) : Int := Ei T f l - most T f l
theorem F4 {T : TM} (lc : T.cs.length = T.ds.length) {f l : Nat} (h : f <= l) (hl : l < T.ds.length) : sm T f l = T.ds.getD f 0 - (T.cs.getD f []).sum + sm T (f + 1) l := by
 unfold sm Ei most
 rw [Kw h hl,Kw h (by omega : l < T.cs.length),List.map_cons,List.sum_cons,List.sum_cons]
 rw [List.getD_eq_getElem?_getD,List.getElem?_eq_getElem (by omega),List.getD_eq_getElem?_getD,List.getElem?_eq_getElem (by omega)]
 show _ - _ = T.ds[f]'(by omega) - (T.cs[f]'(by omega)).sum + _
 omega
theorem Ky {f : Nat} : sm T (f + 1) f = 0 := by unfold sm Ei most; rw [Kx,Kx]; rfl
theorem Pi (lc : T.cs.length = T.ds.length) : ∀ k f,f + k < T.ds.length -> T.lo + sm T f (f + k) <= lz T f := by
 intro k
 induction k with
 | zero =>
  intro f h
  show T.lo + sm T f f <= _
  rw [F4 (f := f) (l := f) lc (Nat.le_refl _) h,Ky,F3 (by omega)]
  have := Kv (T := T) (j := f + 1)
  refine Int.le_trans ?_ Ku
  omega
 | succ k ih =>
  intro f h
  rw [F4 lc (by omega) h,F3 (by omega)]
  have := ih (f + 1) (by omega)
  rw [show f + 1 + k = f + (k + 1) from by omega] at this
  refine Int.le_trans ?_ Ku
  omega
theorem Kz (lc : T.cs.length = T.ds.length) : ∀ k f (X : Int),f + k = T.ds.length -> T.lo <= X -> (∀ l,f <= l -> l < T.ds.length -> T.lo + sm T f l <= X) -> lz T f <= X := by
 intro k
 induction k with
 | zero => intro f X e h _; rw [show f = T.ds.length from by omega,Pf]; exact h
 | succ k ih =>
  intro f X e h hl
  rw [F3 (by omega)]
  refine Ph h ?_
  have h0 := hl f (Nat.le_refl _) (by omega)
  rw [F4 lc (Nat.le_refl _) (by omega),Ky] at h0
  have := ih (f + 1) (X - T.ds.getD f 0 + (T.cs.getD f []).sum) (by omega) (by omega) fun l h1 h2 => by
   have := hl l (by omega) h2
   rw [F4 lc (by omega) h2] at this
   omega
  omega
theorem Pj (lc : T.cs.length = T.ds.length) (h1 : T.lo <= T.st) (h2 : T.lo <= T.hi) : AO T = none ↔ lz T 0 <= T.st /\ ∀ j,1 <= j -> j <= T.ds.length -> lz T j <= T.hi := by
 rw [no_str]
 have tm : ∀ f l,Bv T f l = false ↔ T.lo + sm T f l <= (if f = 0 then T.st else T.hi) := fun f l => by
  unfold Bv sm
  rw [decide_eq_false_iff_not]
  omega
 constructor
 ·intro h
  refine ⟨Kz lc T.ds.length 0 _ (by omega) h1 fun l _ hl => ?_,fun j hj hn => Kz lc (T.ds.length - j) j _ (by omega) h2 fun l hjl hl => ?_⟩
  ·have := (tm 0 l).mp (h 0 l (by omega) hl)
   rw [if_pos rfl] at this; exact this
  ·have := (tm j l).mp (h j l hjl hl)
   rw [if_neg (by omega)] at this; exact this
 ·intro ⟨a,b⟩ f l hf hl
  refine (tm f l).mpr ?_
  have g := Pi lc (l - f) f (by omega)
  rw [show f + (l - f) = l from by omega] at g
  by_cases e : f = 0
  ·rw [if_pos e]; subst e; omega
  ·rw [if_neg e]
   have := b f (by omega) (by omega)
   omega
abbrev dT (T : TM) (j : Nat) : Int := T.ds.getD j 0
structure Spr (T : TM) (b sp : Nat -> Int) : Prop where
 sum : ∀ j,j < T.ds.length -> b j + sp j = (T.cs.getD j []).sum
 pos : ∀ j,j < T.ds.length -> 0 <= sp j
end MF
end
section
namespace MF
open PySem PySem.Spec PyProof.Rows L2
theorem KA {T U : TM} {ns : List Int} (h : ∀ k,k < ns.length -> Bg U k (ns.getD k 0) (ns.getD (k + 1) 0) <= Bg T k (ns.getD k 0) (ns.getD (k + 1) 0)) : ∀ n,n <= ns.length -> CK U ns n <= CK T ns n
 | 0,_ => Int.le_refl _
 | n + 1,hn => by
  rw [HL,HL]
  have := KA h n (by omega)
  have := h n (by omega)
  omega
theorem Pk {T U : TM} {c c' : Int} {qs qs' : List Int} (h : Cp T c qs) (h' : Cp U c' qs') (ec : U.co = T.co) (ed : U.ds.length = T.ds.length) (le : ∀ ns : List Int,ns.length = T.ds.length -> (∀ x ∈ ns,x ∈ 0 :: T.co) -> CA U ns <= CA T ns) : c' <= c := by
 have as : ∀ x ∈ qs',x ∈ 0 :: T.co := fun x hx => by have := h'.as x hx; rw [ec] at this; exact this
 have l : qs'.length = T.ds.length := by rw [h'.len,ed]
 have a := le qs' l as
 have b := h.top qs' l as
 have := h'.val
 omega
end MF
end
section
namespace MF
open PySem PySem.Spec PyProof.Rows L2
variable {T : TM} {F : List (List Int)} {h : Nat}
def mT (T : TM) (F : List (List Int)) : Nat -> Int
 | 0 => T.st
 | i + 1 => min T.hi (mT T F i + (F.getD i []).sum - T.ds.getD i 0)
structure EW (T : TM) (F : List (List Int)) : Prop where
 len : F.length = T.ds.length
 row : ∀ i,i < T.ds.length -> (F.getD i []).length = T.co.length
 bd : ∀ i b,i < T.ds.length -> b < T.co.length -> 0 <= (F.getD i []).getD b 0 /\ (F.getD i []).getD b 0 <= (T.cs.getD i []).getD b 0
 lo : ∀ i,i < T.ds.length -> T.lo <= mT T F (i + 1)
def Dp (T : TM) (F : List (List Int)) (h : Nat) : Int := mT T F h + (F.getD h []).sum - T.ds.getD h 0 - mT T F (h + 1)
theorem Pl : 0 <= Dp T F h := by
 unfold Dp
 have e : mT T F (h + 1) = min T.hi (mT T F h + (F.getD h []).sum - T.ds.getD h 0) := rfl
 omega
theorem Pm : mT T F (h + 1) <= T.hi := by
 have e : mT T F (h + 1) = min T.hi (mT T F h + (F.getD h []).sum - T.ds.getD h 0) := rfl
 omega
theorem KB (fl : Bw T) {h : Nat} (hh : h < T.ds.length) : (T.cs.getD h []).length = T.co.length := (fl.c _ (getD_mem (by rw [fl.ok.lc]; exact hh))).1
theorem Pn {ns : List Int} (fl : Bw T) (fe : EW T F) (ln : ns.length = T.ds.length) : Ci T F T.ds.length - CA T ns = Em T ns F (mT T F) (Dp T F) T.ds.length := by
 have gs := Ko (T := T) (ns := ns) (F := F) (m := mT T F) (bl := Dp T F) (n := T.ds.length) fe.row (fun h hh => KB fl hh) (fun h hh => by unfold Dp; omega) T.ds.length (Nat.le_refl _)
 have z0 : ns.getD T.ds.length 0 = 0 := by rw [List.getD_eq_getElem?_getD,List.getElem?_eq_none (by omega)]; rfl
 rw [z0,Int.zero_mul] at gs
 have ef : CA T ns = CK T ns T.ds.length - ns.getD 0 0 * T.st := by unfold CA; rw [ln]
 have m0 : mT T F 0 = T.st := rfl
 rw [m0] at gs
 omega
theorem Po {ns : List Int} (fe : EW T F) (nn : ∀ x ∈ ns,0 <= x) : ∀ h,h < T.ds.length -> 0 <= Do (ns.getD h 0) (F.getD h []) (T.cs.getD h []) T.co /\ 0 <= DO T.lo T.hi (ns.getD h 0) (ns.getD (h + 1) 0) (mT T F (h + 1)) /\ 0 <= ns.getD h 0 * Dp T F h := fun h hh => by
 have pn : 0 <= ns.getD h 0 := by
  by_cases hl : h < ns.length
  ·exact nn _ (getD_mem hl)
  ·rw [List.getD_eq_getElem?_getD,List.getElem?_eq_none (by omega)]; exact Int.le_refl _
 exact ⟨Kn (fun b hb => fe.bd h b hh hb),O8 (fe.lo h hh) Pm,Int.mul_nonneg pn Pl⟩
theorem Pp {ns : List Int} (fl : Bw T) (fe : EW T F) (ln : ns.length = T.ds.length) (nn : ∀ x ∈ ns,0 <= x) : CA T ns <= Ci T F T.ds.length := by
 have g := Pn fl fe ln
 have p := Kp (T := T) (ns := ns) (F := F) (m := mT T F) (bl := Dp T F) (n := T.ds.length) (fun h hh => by
  obtain ⟨a,b,c⟩ := Po fe nn h hh
  show 0 <= Do (ns.getD h 0) (F.getD h []) (T.cs.getD h []) T.co + DO T.lo T.hi (ns.getD h 0) (ns.getD (h + 1) 0) (mT T F (h + 1)) + ns.getD h 0 * Dp T F h
  omega) T.ds.length (Nat.le_refl _)
 omega
structure At (T : TM) (h : Nat) (f : List (List Int)) (ms ps : List Int) : Prop where
 g : Gr T f ms
 o : Pb T f ms h ps
 lo : ∀ j,j < h -> T.lo <= ms.getD j 0
end MF
end
section
namespace L2
open PySem PySem.Spec PyProof.Rows
section
variable {prog : Program} {w : World} {A : Around} {E : Value -> Shared -> Prop} {s : Shared} {t : Addr} {items : Array Value}
theorem Pq : ((items.size : Int) != 0) = !items.isEmpty := by
 cases z : items.isEmpty
 ·have : items.size ≠ 0 := fun e => by rw [Array.isEmpty,e] at z; cases z
  show _ = true
  rw [bne_iff_ne]; omega
 ·have : items.size = 0 := by simpa [Array.isEmpty] using z
  rw [this]; rfl
theorem Pr {Q : Bool -> Shared -> Prop} (ht : IsTup s.heap t items) (hfit : (items.size : Int) < 2 ^ 63) (h : Q (!items.isEmpty) { s with toks := s.toks + 1 + 1 }) : wpAny (model prog w) A (truthy (.ref t)) Q E s := by
 have hT := ht.typeIs
 have nb := PySem.W.ktl_noBool
 have ln := slot_tuple_len.lookup
 have ng : ¬ ((items.size : Int) ≥ 2 ^ 63) := by omega
 have n0 : ¬ ((items.size : Int) < 0) := by omega
 unfold truthy
 repeat (any_goals (first | assumption | with_reducible refine wpAny_callSpecial?_none (by assumption) (by assumption) ?_ | wp_step))
 refine codeAny_builtin entry_len ?_
 rw [Around.under_plainId plain_len _]
 unfold Builtin.«len»
 refine wpAny_bind (m := oneArg "len" _) (wpAny_pure (wpAny_bind (wpAny_callSpecial?_slot (name := Str.ofString "__len__") hT slot_tuple_len (wpAny_call_entry slot_tuple_len hT entry_tuple_len ?_ (args_tuple_len _)))))
 show wpAny _ _ (do retInt (<- Builtin.Tuple.tupleItemsOf (.ref t)).size) _ _ s
 refine wpAny_bind (tupleItemsOf_ ht (wpAny_bind (wpAny_mkInt (wpAny_pure ⟨_,rfl,?_⟩))))
 have e := Pq (items := items)
 simp only [ng,n0,if_false]
 repeat (any_goals (first | assumption | (rw [if_neg ng]) | (rw [e]; assumption) | wp_step))
end
def Ps (te : TE) : TT := fun σ H Q => te σ H fun x H' => ∃ a xs,x = .ref a /\ H' a = some (.tup xs) /\ Q (!xs.isEmpty) H'
theorem KC {X : Cx} {a : Expr} {ta : TE} (ha : PE X a ta) (he : ∀ whole,isTrue a X.env whole = (do let v <- whole; standAt a.pos; holding [v] (truthy v)) := by intro _; rfl) : PT X a (Ps ta) := by
 intro pins s σ H Q I h
 refine isTrue_plain (An (ha pins s σ H _ I h) fun v s1 ⟨x,H1,I1,r1,q1⟩ => ?_) (he _)
 obtain ⟨b,xs,rfl,hb,q⟩ := q1
 cases r1
 obtain ⟨its,r,pl,hz⟩ := I1.tuple (Ad.of hb)
 have hlen := r.length
 have big : sizeLine < 2 ^ 63 := by decide
 exact Pr pl (by simp only [List.size_toArray]; omega) ⟨H1,I1.tok _,by rw [IQ r]; exact q⟩
end L2
end
section
namespace L2
open PySem PySem.Spec PyProof.Rows
variable {a : Addr} {xs : List V} {tt : TT} {te : TE} {σ : St} {Q : List V -> Hp -> Prop} {H : Hp}
theorem Pt {K : PySem.W.Frag} {cap : List (Option Nat)} {g : TG} {wi2 : TI} {g2 : TG} {tt2 : TT} (Pv : Nat -> List V -> Hp -> Prop) (h0 : Pv 0 [] H)
  (hl : ∀ i zs H,Pv i zs H -> Am K H a xs)
  (hs : ∀ i x zs H,xs[i]? = some x -> Pv i zs H -> g x (AK cap σ) H fun σ2 H2 => Keep (AK cap σ) σ2 /\ tt σ2 H2 fun b H3 => br b (EQ wi2 g2 tt2 te σ2 zs H3 (Pv (i + 1))) (Pv (i + 1) zs H3))
  (hd : ∀ zs H,Pv xs.length zs H -> Q zs H) : JS (Dc K a) cap g tt wi2 g2 tt2 te σ Q H := by
 refine ⟨fun i m zs H => m = xs.length - i /\ i <= xs.length /\ Pv i zs H,⟨_,rfl,Nat.zero_le _,h0⟩,?_⟩
 rintro i m zs H ⟨rfl,hi,p⟩
 rcases Nat.lt_or_eq_of_le hi with hlt | rfl
 ·exact .inr ⟨⟨xs,xs[i],hl i zs H p,by simp [hlt]⟩,Pv (i + 1),fun zs' H' p' => ⟨xs.length - (i + 1),by omega,rfl,hlt,p'⟩,fun v H' ⟨e,y⟩ => by subst e; exact hs i v zs _ (y xs (hl i zs _ p)) p⟩
 ·exact .inl ⟨⟨xs,hl _ zs H p,Nat.le_refl _⟩,hd zs H p⟩
theorem Pu {K : PySem.W.Frag} {g : TG} {ys : List V} (Pv : Nat -> List V -> Hp -> Prop) (h0 : Pv 0 ys H) (hz : ∀ i zs H,Pv i zs H -> zs.length < 100000)
  (hl : ∀ i zs H,Pv i zs H -> Am K H a xs)
  (hs : ∀ i x zs H,xs[i]? = some x -> Pv i zs H -> g x σ H fun σ2 H2 => Keep σ σ2 /\ tt σ2 H2 fun b H3 => br b (te σ2 H3 fun y H4 => Pv (i + 1) (zs ++ [y]) H4) (Pv (i + 1) zs H3))
  (hd : ∀ zs H,Pv xs.length zs H -> Q zs H) : JR (Dc K a) g tt te σ ys Q H := by
 refine ⟨fun i m zs H => m = xs.length - i /\ i <= xs.length /\ Pv i zs H,⟨_,rfl,Nat.zero_le _,h0⟩,?_⟩
 rintro i m zs H ⟨rfl,hi,p⟩
 rcases Nat.lt_or_eq_of_le hi with hlt | rfl
 ·exact .inr ⟨⟨xs,xs[i],hl i zs H p,by simp [hlt]⟩,Nat.lt_trans (hz i zs H p) (by decide),Pv (i + 1),fun zs' H' p' => ⟨xs.length - (i + 1),by omega,rfl,hlt,p'⟩,fun v H' ⟨e,y⟩ => by subst e; exact hs i v zs _ (y xs (hl i zs _ p)) p⟩
 ·exact .inl ⟨⟨xs,hl _ zs H p,Nat.le_refl _⟩,hd zs H p⟩
end L2
namespace MF
open PySem PySem.Spec PyProof.Rows L2
variable {ch : List Int} {T : TM} {k : Nat} {p : List Int -> Bool}
theorem EX {b : Int} : ∀ {ns : List Int},By (.int b) (ns.map V.int) = decide (b ∈ ns)
 | [] => rfl
 | n :: ns => by
  have ih := EX (b := b) (ns := ns)
  unfold By at ih ⊢
  rw [List.map_cons,List.any_cons,ih,Bool.eq_iff_iff,Bool.or_eq_true,decide_eq_true_eq,decide_eq_true_eq,List.mem_cons]
  refine or_congr_left ?_
  show ((n == b) = true) ↔ _
  rw [beq_iff_eq]; exact eq_comm
theorem F5 {ns : List Int} : (ns.map V.int).all Cw = true := by
 rw [List.all_eq_true]; intro x hx; obtain ⟨n,_,rfl⟩ := List.mem_map.mp hx; rfl
def Bh (ch r : List Int) : List Int := r.zipIdx.map fun q => if (q.2 : Int) ∈ ch then q.1 else 0
def only (T : TM) (ch : List Int) : TM := { T with cs := T.cs.map (Bh ch) }
theorem B9 {r : List Int} : (Bh ch r).length = r.length := by unfold Bh; simp
theorem En {ch r : List Int} {i : Nat} : (Bh ch r).getD i 0 = if (i : Int) ∈ ch then r.getD i 0 else 0 := by
 unfold Bh
 rw [List.getD_eq_getElem?_getD,List.getElem?_map,List.getElem?_zipIdx,List.getD_eq_getElem?_getD]
 cases r[i]? with
 | none => simp
 | some x => simp
theorem Pw {r : List Int} {x : Int} (h : x ∈ Bh ch r) : x = 0 \/ x ∈ r := by
 obtain ⟨i,hi,rfl⟩ := List.getElem_of_mem h
 rw [B9] at hi
 have e := En (ch := ch) (r := r) (i := i)
 rw [List.getD_eq_getElem?_getD,List.getElem?_eq_getElem (by rw [B9]; exact hi)] at e
 have e' : (Bh ch r)[i]'(by rw [B9]; exact hi) = _ := e
 rw [e']
 by_cases c : (i : Int) ∈ ch
 ·rw [if_pos c]; exact .inr (getD_mem hi)
 ·rw [if_neg c]; exact .inl rfl
theorem Eo {i : Nat} : (only T ch).cs.getD i [] = Bh ch (T.cs.getD i []) := by
 show (T.cs.map (Bh ch)).getD i [] = _
 rw [List.getD_eq_getElem?_getD,List.getElem?_map,List.getD_eq_getElem?_getD]
 cases T.cs[i]? <;> rfl
theorem F6 (ok : T.ok) {ch : List Int} : (only T ch).ok := ⟨ok.l8,by show (T.cs.map _).length = _; rw [List.length_map]; exact ok.lc⟩
theorem F7 (fl : Bw T) {ch : List Int} : Bw (only T ch) := by
 refine ⟨F6 fl.ok,fun r hr => ?_,fl.o,fl.o1,fl.d,fl.l0,fl.h0,fl.s0,fl.l4,fl.h4,fl.s4⟩
 obtain ⟨r0,h0,rfl⟩ := List.mem_map.mp (show r ∈ T.cs.map (Bh ch) from hr)
 obtain ⟨a,b⟩ := fl.c r0 h0
 refine ⟨by rw [B9]; exact a,fun c hc => ?_⟩
 rcases Pw hc with e | e
 ·omega
 ·exact b c e
theorem HY (fl : Bw T) {i b : Nat} : 0 <= (T.cs.getD i []).getD b 0 := by
 by_cases hi : i < T.cs.length
 ·by_cases hb : b < (T.cs.getD i []).length
  ·exact ((fl.c _ (getD_mem hi)).2 _ (getD_mem hb)).1
  ·rw [List.getD_eq_getElem?_getD,List.getElem?_eq_none (by omega)]; exact Int.le_refl _
 ·rw [List.getD_eq_getElem?_getD (l := T.cs),List.getElem?_eq_none (by omega)]; exact Int.le_refl _
theorem KD {c c' r : List Int} (sub : ∀ x ∈ c,x ∈ c') (pos : ∀ b,0 <= r.getD b 0) {b : Nat} : (Bh c r).getD b 0 <= (Bh c' r).getD b 0 := by
 rw [En,En]
 by_cases h : (b : Int) ∈ c
 ·rw [if_pos h,if_pos (sub _ h)]; exact Int.le_refl _
 ·rw [if_neg h]
  by_cases h' : (b : Int) ∈ c'
  ·rw [if_pos h']; exact pos b
  ·rw [if_neg h']; exact Int.le_refl _
theorem HZ (fl : Bw T) {c c' : List Int} (sub : ∀ x ∈ c,x ∈ c') (no : AO (only T c) = none) : AO (only T c') = none := by
 refine O4 (T := only T c) (U := only T c') rfl (fun _ => Int.le_refl _) (by show (T.cs.map _).length = (T.cs.map _).length; simp) (fun i => ?_) (Int.le_refl _) (Int.le_refl _) (Int.le_refl _) no
 rw [Eo,Eo]
 exact HW (by rw [B9,B9]) fun b => KD sub fun b => HY fl
theorem KF : ∀ {r r' co : List Int} {p : Int},r.length = r'.length -> (∀ b,r.getD b 0 <= r'.getD b 0) -> spared r' co p <= spared r co p
 | [],[],co,p,_,_ => Int.le_refl _
 | [],_ :: _,_,_,h,_ => by simp at h
 | _ :: _,[],_,_,h,_ => by simp at h
 | a :: r,a' :: r',[],p,_,_ => Int.le_refl _
 | a :: r,a' :: r',c :: co,p,h,le => by
  have ih := KF (r := r) (r' := r') (co := co) (p := p) (by simpa using h) fun b => le (b + 1)
  have h0 : a <= a' := le 0
  show B8 p (a',c) + spared r' co p <= B8 p (a,c) + spared r co p
  have : B8 p (a',c) <= B8 p (a,c) := by
   unfold B8
   dsimp only
   by_cases z : c < p
   ·rw [if_pos z,if_pos z]
    have := Int.mul_le_mul_of_nonpos_right h0 (show c - p <= 0 by omega)
    exact this
   ·rw [if_neg z,if_neg z]; exact Int.le_refl _
  omega
theorem KG (fl : Bw T) {c c' : List Int} (sub : ∀ x ∈ c,x ∈ c') {f f' : Int} {ps ps' : List Int} (h : Cp (only T c) f ps) (h' : Cp (only T c') f' ps') : f' <= f := by
 refine Pk h h' rfl rfl fun ns l _ => ?_
 have := KA (T := only T c) (U := only T c') (ns := ns) (fun k _ => by
  unfold Bg
  have := KF (r := (only T c).cs.getD k []) (r' := (only T c').cs.getD k []) (co := T.co) (p := ns.getD k 0) (by rw [Eo,Eo,B9,B9]) fun b => by rw [Eo,Eo]; exact KD sub fun b => HY fl
  show ns.getD k 0 * T.ds.getD k 0 + spared ((only T c').cs.getD k []) T.co _ + CJ T.lo T.hi _ _ <= ns.getD k 0 * T.ds.getD k 0 + spared ((only T c).cs.getD k []) T.co _ + CJ T.lo T.hi _ _
  omega) ns.length (Nat.le_refl _)
 unfold CA
 show _ - ns.getD 0 0 * T.st <= _ - ns.getD 0 0 * T.st
 omega
theorem Px {c : List Int} (h : ∀ r ∈ T.cs,∀ b : Nat,b < r.length -> (b : Int) ∈ c) : only T c = T := by
 unfold only
 have : T.cs.map (Bh c) = T.cs := by
  conv => rhs; rw [<- List.map_id T.cs]
  refine List.map_congr_left fun r hr => ?_
  show Bh c r = r
  refine List.ext_getElem? fun i => ?_
  by_cases hi : i < r.length
  ·have e := En (ch := c) (r := r) (i := i)
   rw [if_pos (h r hr i hi),List.getD_eq_getElem?_getD,List.getD_eq_getElem?_getD,List.getElem?_eq_getElem (by rw [B9]; exact hi),List.getElem?_eq_getElem hi] at e
   rw [List.getElem?_eq_getElem (by rw [B9]; exact hi),List.getElem?_eq_getElem hi]
   exact congrArg some e
  ·rw [List.getElem?_eq_none (by rw [B9]; omega),List.getElem?_eq_none (by omega)]
 rw [this]
theorem Py (fl : Bw T) (h1 : T.lo <= T.st) (h2 : T.lo <= T.hi) (h3 : T.st <= T.hi) (no : AO T = none) : EW T T.cs := by
 obtain ⟨a,b⟩ := (Pj fl.ok.lc h1 h2).mp no
 have key : ∀ i,i <= T.ds.length -> lz T i <= mT T T.cs i := by
  intro i
  induction i with
  | zero => intro _; exact a
  | succ i ih =>
   intro hi
   have h := ih (by omega)
   have n := F3 (T := T) (j := i) (by omega)
   have := b (i + 1) (by omega) hi
   have e : mT T T.cs (i + 1) = min T.hi (mT T T.cs i + (T.cs.getD i []).sum - T.ds.getD i 0) := rfl
   have m : lz T (i + 1) + T.ds.getD i 0 - (T.cs.getD i []).sum <= lz T i := by rw [n]; unfold mx; split <;> omega
   omega
 refine ⟨fl.ok.lc,fun i hi => KB fl hi,fun i b _ _ => ⟨HY fl,Int.le_refl _⟩,fun i hi => ?_⟩
 exact Int.le_trans (Kv (j := i + 1)) (key (i + 1) hi)
structure IsSet (n : Nat) (c : List Int) : Prop where
 up : c.Pairwise (· < ·)
 bd : ∀ x ∈ c,0 <= x /\ x < (n : Int)
theorem KH : ∀ {c : List Int} {a b : Int},c.Pairwise (· < ·) -> (∀ x ∈ c,a <= x /\ x < b) -> (c.length : Int) <= max 0 (b - a)
 | [],a,b,_,_ => by show (0 : Int) <= _; omega
 | x :: c,a,b,h,hb => by
  have h1 := hb x (by simp)
  have ih := KH (c := c) (a := x + 1) (b := b) (List.pairwise_cons.mp h).2 fun y hy => ⟨by have := (List.pairwise_cons.mp h).1 y hy; omega,(hb y (by simp [hy])).2⟩
  rw [List.length_cons]
  omega
theorem IsSet.len {n : Nat} {c : List Int} (h : IsSet n c) : c.length <= n := by
 have := KH h.up h.bd
 omega
def B2 (c : List Int) : Int := match c.getLast? with | none => 0 | some x => x + 1
def grow (n : Nat) (c : List Int) : List (List Int) := (List.range ((n : Int) - B2 c).toNat).map fun (i : Nat) => c ++ [B2 c + (i : Int)]
def BQ (n : Nat) : Nat -> List (List Int)
 | 0 => [[]]
 | k + 1 => (BQ n k).flatMap (grow n)
theorem H0 {c : List Int} {x : Int} : B2 (c ++ [x]) = x + 1 := by unfold B2; rw [List.getLast?_concat]
theorem IsSet.first {n : Nat} {c : List Int} (h : IsSet n c) : 0 <= B2 c /\ B2 c <= n /\ ∀ x ∈ c,x < B2 c := by
 rcases List.eq_nil_or_concat c with e | ⟨d,y,e⟩
 ·subst e; exact ⟨by decide,by show (0 : Int) <= n; omega,fun x hx => by cases hx⟩
 ·rw [List.concat_eq_append] at e
  subst e
  rw [H0]
  have hy := h.bd y (by simp)
  refine ⟨by omega,by omega,fun x hx => ?_⟩
  rcases List.mem_append.mp hx with hx | hx
  ·have := (List.pairwise_append.mp h.up).2.2 x hx y (by simp)
   omega
  ·rw [List.mem_singleton] at hx; omega
theorem KI {n : Nat} {c d : List Int} (h : IsSet n c) : d ∈ grow n c ↔ ∃ x,d = c ++ [x] /\ IsSet n d := by
 obtain ⟨f0,f1,f2⟩ := h.first
 unfold grow
 rw [List.mem_map]
 constructor
 ·rintro ⟨i,hi,rfl⟩
  have := List.mem_range.mp hi
  refine ⟨_,rfl,?_,fun x hx => ?_⟩
  ·exact List.pairwise_append.mpr ⟨h.up,List.pairwise_singleton ..,fun x hx y hy => by rw [List.mem_singleton] at hy; have := f2 x hx; omega⟩
  ·rcases List.mem_append.mp hx with hx | hx
   ·exact h.bd x hx
   ·rw [List.mem_singleton] at hx; omega
 ·rintro ⟨x,rfl,hs⟩
  have hx := hs.bd x (by simp)
  have : B2 c <= x := by
   rcases List.eq_nil_or_concat c with e | ⟨d,y,e⟩
   ·subst e; exact hx.1
   ·rw [List.concat_eq_append] at e
    subst e
    rw [H0]
    have := (List.pairwise_append.mp hs.up).2.2 y (by simp) x (by simp)
    omega
  exact ⟨(x - B2 c).toNat,by rw [List.mem_range]; omega,by rw [show B2 c + ((x - B2 c).toNat : Int) = x from by omega]⟩
theorem mem_sets {n : Nat} : ∀ {k : Nat} {c : List Int},c ∈ BQ n k ↔ IsSet n c /\ c.length = k
 | 0,c => by
  show c ∈ [[]] ↔ _
  rw [List.mem_singleton]
  constructor
  ·rintro rfl; exact ⟨⟨.nil,fun x hx => by cases hx⟩,rfl⟩
  ·rintro ⟨_,h⟩; exact List.length_eq_zero_iff.mp h
 | k + 1,c => by
  show c ∈ (BQ n k).flatMap (grow n) ↔ _
  rw [List.mem_flatMap]
  constructor
  ·rintro ⟨d,hd,hc⟩
   obtain ⟨h1,h2⟩ := mem_sets.mp hd
   obtain ⟨x,rfl,hs⟩ := (KI h1).mp hc
   exact ⟨hs,by simp [h2]⟩
  ·rintro ⟨hs,hl⟩
   rcases List.eq_nil_or_concat c with e | ⟨d,x,e⟩
   ·subst e; simp at hl
   ·rw [List.concat_eq_append] at e
    subst e
    have hd : IsSet n d := ⟨(List.pairwise_append.mp hs.up).1,fun y hy => hs.bd y (by simp [hy])⟩
    exact ⟨d,mem_sets.mpr ⟨hd,by simpa using hl⟩,(KI hd).mpr ⟨x,rfl,hs⟩⟩
theorem Ep : ∀ n,n <= 4 -> ∀ k,k <= 4 -> (BQ n k).length <= 6 := by decide +kernel
def B3 (n k : Nat) : List (List Int) := (List.range k).flatMap (BQ n)
theorem Ia {n : Nat} : B3 n (k + 1) = B3 n k ++ BQ n k := by unfold B3; rw [List.range_succ,List.flatMap_append]; simp
theorem KJ {n : Nat} (hn : n <= 4) : ∀ {k : Nat},k <= 5 -> (B3 n k).length <= 6 * k
 | 0,_ => Nat.le_refl _
 | k + 1,hk => by rw [Ia,List.length_append]; have := Ep n hn k (by omega); have := KJ hn (k := k) (by omega); omega
theorem mem_setsTo {n : Nat} {c : List Int} : c ∈ B3 n k ↔ IsSet n c /\ c.length < k := by
 unfold B3
 rw [List.mem_flatMap]
 constructor
 ·rintro ⟨j,hj,hc⟩
  obtain ⟨h1,h2⟩ := mem_sets.mp hc
  exact ⟨h1,by have := List.mem_range.mp hj; omega⟩
 ·rintro ⟨h1,h2⟩
  exact ⟨c.length,List.mem_range.mpr h2,mem_sets.mpr ⟨h1,rfl⟩⟩
def DP (n : Nat) (p : List Int -> Bool) : Option (List Int) := (B3 n (n + 1)).find? p
theorem Ib {n : Nat} {c : List Int} (h : DP n p = some c) : IsSet n c /\ p c = true /\ ∀ d,IsSet n d -> d.length < c.length -> p d = false := by
 have gen : ∀ k,k <= n + 1 -> ∀ c,(B3 n k).find? p = some c -> IsSet n c /\ p c = true /\ ∀ d,IsSet n d -> d.length < c.length -> p d = false := by
  intro k
  induction k with
  | zero => intro _ c h; cases h
  | succ k ih =>
   intro hk c h
   rw [Ia,List.find?_append] at h
   cases z : (B3 n k).find? p with
   | some d => rw [z] at h; cases h; exact ih (by omega) _ z
   | none =>
    rw [z] at h
    have h' : (BQ n k).find? p = some c := h
    obtain ⟨h1,h2⟩ := mem_sets.mp (List.mem_of_find?_eq_some h')
    refine ⟨h1,List.find?_some h',fun d hd hl => ?_⟩
    have := List.find?_eq_none.mp z d (mem_setsTo.mpr ⟨hd,by omega⟩)
    simpa using this
 exact gen _ (Nat.le_refl _) c h
theorem Pz {n : Nat} {c : List Int} (h : IsSet n c) (hp : p c = true) : ∃ d,DP n p = some d := by
 cases z : DP n p with
 | some d => exact ⟨d,rfl⟩
 | none =>
  have := List.find?_eq_none.mp z c (mem_setsTo.mpr ⟨h,by have := h.len; omega⟩)
  rw [hp] at this; exact absurd rfl this
def BJ (T : TM) (c : List Int) : Bool := (AO (only T c)).isNone
def AX (n : Nat) : List Int := (List.range n).map fun (i : Nat) => (i : Int)
theorem allB_mem {n : Nat} {x : Int} : x ∈ AX n ↔ 0 <= x /\ x < n := by
 unfold AX
 rw [List.mem_map]
 exact ⟨fun ⟨i,hi,e⟩ => by have := List.mem_range.mp hi; omega,fun h => ⟨x.toNat,List.mem_range.mpr (by omega),by omega⟩⟩
theorem PC : ∀ n,(AX n).Pairwise (· < ·) := fun n => by
 unfold AX
 rw [List.pairwise_map]
 exact List.pairwise_lt_range.imp fun h => by omega
theorem KK {n : Nat} : IsSet n (AX n) := ⟨PC n,fun x hx => allB_mem.mp hx⟩
theorem IsSet.filter {n : Nat} {c : List Int} (h : IsSet n c) {p : Int -> Bool} : IsSet n (c.filter p) := ⟨h.up.filter _,fun x hx => h.bd x (List.mem_filter.mp hx).1⟩
end MF
namespace MF
open PySem PySem.Spec PyProof.Rows L2
variable {P : PL} {S : SY}
theorem KM {P : PL} {S : SY} {c : List Int} {F : List (List Int)} : ∀ i,mT (only (terms P S) c) F i = AN P S F i
 | 0 => rfl
 | i + 1 => by
  have ih := KM (P := P) (S := S) (c := c) (F := F) i
  show min P.hi (mT (only (terms P S) c) F i + (F.getD i []).sum - (draws P S).getD i 0) = AN P S F i + (made F i - Cy P S i) - CI P.hi (AN P S F i + (made F i - Cy P S i))
  rw [ih]
  unfold made Cy CI
  split <;> omega
theorem Ic (ok : P.ok) (so : S.ok P.bs.length) {c : List Int} : FOk P S (only (terms P S) c).cs := by
 have fo := FOk.caps (S := S) ok
 have at_ : ∀ (i : Nat) (r : List Int),(only (terms P S) c).cs[i]? = some r -> ∃ r0,(caps P S)[i]? = some r0 /\ r = Bh c r0 := fun i r h => by
  rw [show (only (terms P S) c).cs = (caps P S).map (Bh c) from rfl,List.getElem?_map] at h
  cases z : (caps P S)[i]? with
  | none => rw [z] at h; cases h
  | some r0 => rw [z] at h; cases h; exact ⟨r0,rfl,rfl⟩
 refine ⟨by show ((caps P S).map _).length = _; rw [List.length_map]; exact fo.len,fun i r h => ?_,fun i r j x y h hx hy => ?_⟩
 ·obtain ⟨r0,h0,rfl⟩ := at_ i r h
  rw [B9]; exact fo.row i r0 h0
 ·obtain ⟨r0,h0,rfl⟩ := at_ i r h
  have hj : j < r0.length := by have := (List.getElem?_eq_some_iff.mp hx).1; rw [B9] at this; exact this
  have e := En (ch := c) (r := r0) (i := j)
  rw [List.getD_eq_getElem?_getD,hx,List.getD_eq_getElem?_getD,List.getElem?_eq_getElem hj] at e
  have b := fo.bd i r0 j r0[j] y h0 (List.getElem?_eq_getElem hj) hy
  by_cases z : (j : Int) ∈ c
  ·rw [if_pos z] at e
   have e' : x = r0[j] := e
   rw [e']; exact b
  ·rw [if_neg z] at e
   have e' : x = 0 := e
   omega
theorem KN (ok : P.ok) (so : S.ok P.bs.length) {c : List Int} (d : AO (only (terms P S) c) = none) : EW (only (terms P S) c) (only (terms P S) c).cs := Py (F7 (CL ok so)) ok.ls (Int.le_trans ok.ls ok.sh) ok.sh d
theorem PD (ok : P.ok) (so : S.ok P.bs.length) {c : List Int} (d : AO (only (terms P S) c) = none) {k : Nat} {s : Option (Int × Int)} (run : EO P S (only (terms P S) c).cs k s) : s = none := by
 rcases run.fin with ⟨h,_⟩ | ⟨h1,h2,_⟩
 ·exact h
 ·have fe := (KN ok so d).lo k (by show k < (draws P S).length; rw [Cg]; exact h1)
  rw [KM,Ee] at fe
  unfold CI at fe
  have : (only (terms P S) c).lo = P.lo := rfl
  split at fe <;> omega
theorem PF (ok : P.ok) (so : S.ok P.bs.length) {c : List Int} (d : AO (only (terms P S) c) = none) {f : Int} {ps : List Int} (h : Cp (only (terms P S) c) f ps) : f <= coal P (only (terms P S) c).cs := by
 have fl := F7 (ch := c) (CL ok so)
 have le := Pp fl (KN ok so d) h.len fun x hx => by
  rcases List.mem_cons.mp (h.as x hx) with e | e
  ·omega
  ·have := fl.o1 _ e; omega
 rw [<- h.val] at le
 have e : ∀ F k,Ci (only (terms P S) c) F k = Ci (terms P S) F k := fun F k => by
  induction k with
  | zero => rfl
  | succ k ih => show Ci _ F k + _ = Ci _ F k + _; rw [ih]; rfl
 rw [e,show (only (terms P S) c).ds.length = S.ex.length from Cg,Pc (Ic ok so)] at le
 exact le
theorem PH {c : List Int} {b : Nat} (hb : ¬ (b : Int) ∈ c) (h : b < P.bs.length) : (BA P (only (terms P S) c).cs)[b]? = some 0 := by
 unfold BA
 rw [List.getElem?_map,List.getElem?_range h]
 show some ((((caps P S).map (Bh c)).map fun r => r.getD b 0).sum) = some 0
 rw [List.map_map]
 have z : ∀ l : List (List Int),((l.map ((fun r => r.getD b 0) ∘ Bh c)).sum) = 0 := fun l => by
  induction l with
  | nil => rfl
  | cons r l ih =>
   rw [List.map_cons,List.sum_cons,ih]
   show (Bh c r).getD b 0 + 0 = 0
   rw [En,if_neg hb]; rfl
 rw [z]
end MF
end
section
namespace L2
open PySem PySem.Spec PyProof.Rows
def F8 (prog : Program) (w : World) (s : Shared) (v : Value) (Post : List Value -> Shared -> Prop) : Prop :=
 ∀ (A : Around) (Q : List Value -> Shared -> Prop) (E : Value -> Shared -> Prop),A.handled = none -> (∀ vs s',Post vs s' -> Q vs s') -> wpAny (model prog w) A (collect v) Q E s
section
variable {prog : Program} {w : World} {A : Around} {E : Value -> Shared -> Prop} {s : Shared}
theorem PJ {t : Addr} {items : Array Value} (ht : IsTup s.heap t items) (hz : items.size <= sizeLine) : F8 prog w s (.ref t) fun vs s' => vs = items.toList /\ ∃ h',(∀ b o,s.heap.get? b = some o -> h'.get? b = some o) /\ s' = { s with heap := h' } := by
 obtain ⟨o,ho,hc,n,hd⟩ := ht
 exact fun A Q E _ k => wpAny_collect_seq (hsz := hz) t (.inr rfl) ho hc hd fun h' e => k _ _ ⟨rfl,h',e,rfl⟩
theorem PK {r : Addr} {a b c : Int} {t u v : Tok} {n : Nat} (hr : IsRange s.heap r a b c t u v) (hsm : Builtin.Range.small a b c = true) (hn : Builtin.Range.rangeSize a b c = n) (hl : n <= 2 ^ 24) :
  F8 prog w s (.ref r) fun vs s' => ItemsOf (fun i v => ∃ t,v = .int (a + i * c) t) vs.toArray n /\ ∃ h' tk,(∀ b o,s.heap.get? b = some o -> h'.get? b = some o) /\ s' = { s with heap := h',toks := tk } := by
 intro A Q E hh k
 unfold collect
 refine wpAny_bind (wpAny_runValue (codeAny_builtin F.entry_proto_collect ?_))
 rw [Around.under_plainId F.plain_proto_collect _]
 refine wpAny_bind (m := newList []) (wpAny_newObj_type (wpAny_pure ⟨plainId_quiet F.plain_list_iadd _,codeAny_builtin F.entry_list_iadd ?_⟩))
 rw [Around.under_plainId F.plain_list_iadd _]
 have kS : (s.heap.push { cls := .type "list",data := .seq ([] : List Value).toArray }).get? s.heap.objs.size = some { cls := .type "list",data := .seq #[] 0 } := Heap.get?_push_size _ rfl
 show wpAny _ _ (Builtin.List.listExtendWith (.ref s.heap.objs.size) (.ref r) (.ref s.heap.objs.size)) _ _ _
 refine wpAny_extend_range (R := fun r s' => match r with
   | .ok (.ret v) => wpAny (model prog w) A (match v with
    | Value.ref a => do
     match (<- load a).data with
      | Data.seq xs _ => pure xs.toList
      | _ => unsupported "internal:collect"
    | _ => unsupported "internal:collect") Q E s'
   | .ok _ => False
   | .error e => E e s') (s := { s with heap := s.heap.push { cls := .type "list",data := .seq ([] : List Value).toArray } }) hh (Heap.get?_push_of_some _ hr) hsm hn hl s.heap.objs.size (.ref s.heap.objs.size) 0 kS fun h' tk acc c' kp at_ it => ?_
 exact wpAny_bind (wpAny_load at_ (wpAny_pure (k _ _ ⟨by simpa using it,h',tk,fun b o e => kp b o (Nat.ne_of_lt (Heap.lt_size e)) (Heap.get?_push_of_some _ e),rfl⟩)))
theorem PN {v : Value} {Post : List Value -> Shared -> Prop} {Q : Value -> Shared -> Prop} (hh : A.handled = none) (c : F8 prog w s v Post)
  (k : ∀ vs s1,Post vs s1 -> ∃ ns : List Int,IntsAre vs ns /\ vs.length < 64 /\ ∀ (out : Array Value) (ns' : List Int),IntsAre out.toList ns' -> ns'.Perm ns -> ns'.Pairwise (· <= ·) -> Q (.ref s1.heap.objs.size) { s1 with heap := sortedHeap (s1.heap.push (seqObj "list" vs.toArray 0)) s1.heap.objs.size vs out }) :
  wpAny (model prog w) A (call (.builtin "sorted") [v]) Q E s := by
 refine Calls.call_function_entry kind_sorted plain_sorted entry_sorted (args_sorted1 _) ?_
 refine wpAny_bind (m := checkCount "sorted" 1 1 _) (wpAny_pure (wpAny_bind (c A.in1 _ _ (by simpa using hh) fun vs s1 po => ?_)))
 obtain ⟨ns,hI,h64,q⟩ := k vs s1 po
 have at_ : (s1.heap.push (seqObj "list" vs.toArray 0)).get? s1.heap.objs.size = some (seqObj "list" vs.toArray 0) := Heap.get?_push_size _ rfl
 refine wpAny_bind (wpAny_newList (wpAny_bind (wpAny_holding ?_)))
 exact wpAny_call_entry slot_list_sort ⟨_,at_,rfl⟩ entry_list_sort (list_sort_tree at_ hI h64 fun out ns' a b c => ⟨_,rfl,wpAny_pure ⟨_,rfl,q out ns' a b c⟩⟩) (args_list_sort _)
theorem PP {v : Value} {T : String} {Post : List Value -> Shared -> Prop} {Q : Value -> Shared -> Prop} (hh : A.handled = none) (hT : s.TypeIs v T) (hne : (Value.type T == Value.type "tuple") = false) (c : F8 prog w s v Post)
  (k : ∀ vs s1,Post vs s1 -> vs.length <= sizeLine /\ Q (.ref s1.heap.objs.size) { s1 with heap := s1.heap.push { cls := .type "tuple",data := .seq vs.toArray } }) :
  wpAny (model prog w) A (call (.type "tuple") [v]) Q E s := by
 refine callType_codes (Q₁ := fun obj s₁ => s₁.TypeIs obj "tuple" /\ Q obj s₁) F.called_tuple (F.typeCall_tuple_1 _) F.entry_object_init (codeAny_of_tree (wpAny_bind (m := checkBuiltinCall "tuple.__new__" ⟨[.type "tuple",v],[]⟩) (wpAny_of_eq (F.newCall_tuple_1 _) (wpAny_pure ⟨plainId_quiet F.plain_tuple_new _,codeAny_builtin F.entry_tuple_new ?_⟩))))
  fun obj s₁ h₁ => ⟨h₁.1,F.args_object_init_2 obj _,object_init_meets F.called_tuple.init.lookup F.called_tuple.made (by decide) prog w A.in1 _ s₁ ⟨h₁.1,rfl,h₁.2⟩⟩
 rw [Around.under_plainId F.plain_tuple_new _]
 have su := sub_tuple_self
 have il := init_tuple_lookup
 have mh := madeHere_tuple
 have c' := fun (Q' : List Value -> Shared -> Prop) (E' : Value -> Shared -> Prop) => c A.in1.in1 Q' E' (by simpa using hh)
 wp_walk using wpAny_typeOf hT,c'
 intro vs s1 po
 obtain ⟨hz,q⟩ := k vs s1 po
 refine wpAny_bind (wpAny_pure ?_)
 show wpAny _ _ (Builtin.Tuple.tupleExact vs.toArray >>= fun v => ret v) _ _ _
 exact wpAny_bind (m := Builtin.Tuple.tupleExact vs.toArray) (wpAny_newObj_type (wpAny_pure ⟨⟨_,Heap.get?_push_size _ rfl,rfl⟩,q⟩) (by show vs.toArray.size <= sizeLine; simpa using hz))
end
section
variable {X : Cx}
def PQ : List V -> Hp -> VK -> Prop := fun xs H Q => ∃ (p : Addr) (ns : List Int),xs = [.ref p] /\ H p = some (.tup (ns.map V.int)) /\ ns.length < 64 /\ ∀ (l : Addr) (H' : Hp) (ns' : List Int),Ab H H' -> H l = none -> H' l = some (.lst (ns'.map V.int)) -> ns'.Perm ns -> ns'.Pairwise (· <= ·) -> Q (.ref l) H'
theorem PR {pins : List (Addr × Obj)} {σ : St} {H : Hp} {s : Shared} {Q : VK} {vs : List Value} {out : Array Value} {ns ns' : List Int} (I : Ae X pins σ H s) (hz : ns.length < 64) (a1 : IntsAre out.toList ns') (a2 : ns'.Perm ns)
  (q : ∀ (l : Addr) (H' : Hp),Ab H H' -> H l = none -> H' l = some (.lst (ns'.map V.int)) -> Q (.ref l) H') :
  EP X pins σ Q (.ref s.heap.objs.size) { s with heap := sortedHeap (s.heap.push (seqObj "list" vs.toArray 0)) s.heap.objs.size vs out } := by
 have at_ : (s.heap.push (seqObj "list" vs.toArray 0)).get? s.heap.objs.size = some (seqObj "list" vs.toArray 0) := Heap.get?_push_size _ rfl
 obtain ⟨e,he⟩ := sortedHeap_at (out := out) at_
 have fr : H s.heap.objs.size = none := I.hok.fresh (Nat.le_refl _)
 refine ⟨.ref s.heap.objs.size,upd H s.heap.objs.size (.lst (ns'.map V.int)),I.laid (t' := s.toks) (fun b o eb => ?_) (Nat.le_refl _) ⟨?_,out.toList,e,Hg a1,by simpa [seqObj] using he⟩,rfl,q _ _ (Ab.new fr) fr Ai⟩
 ·have lt := Heap.lt_size eb
  rw [sortedHeap_old (Nat.ne_of_lt lt) (by rw [size_push']; exact Nat.lt_succ_of_lt lt)]
  exact Heap.get?_push_of_some _ eb
 ·rw [List.length_map,a2.length_eq]
  exact Nat.le_of_lt (Nat.lt_trans hz (by decide))
theorem PU (hc : X.calm = true) : BL X (.builtin "sorted") PQ := by
 intro pins s σ H xs us Q I r h
 obtain ⟨p,ns,rfl,hp,hn,q⟩ := h
 obtain ⟨u,rfl,ru⟩ := r.one
 cases ru
 obtain ⟨its,rv,pl,hz⟩ := I.tuple (Ad.of hp)
 have hl := rv.length
 rw [List.length_map] at hl hz
 refine PN (I.ok.hd hc) (PJ pl (by simpa using (by omega : its.length <= sizeLine))) fun vs s1 ⟨e,h',kp,es⟩ => ?_
 subst es
 rw [e]
 refine ⟨ns,by simpa using Mg rv,by simpa using (by omega : its.length < 64),fun out ns' a1 a2 a3 => ?_⟩
 exact PR (I.kept (t' := s.toks) kp) hn a1 a2 fun l H' sm fr k => q l H' ns' sm fr k a2 a3
def PV (ta : TA) : TE := fun σ H Q => ta σ H fun vs H1 => ∃ n : Nat,vs = [.int (n : Int)] /\ n <= 1000 /\ ∀ (l : Addr) (H' : Hp),Ab H1 H' -> H' l = some (.tup ((List.range n).map fun i : Nat => V.int (i : Int))) -> Q (.ref l) H'
theorem KO {a : Expr} {ta : TA} {p pos p2 pos2 : Pos} (hc : X.calm = true) (hg0 : Gl X "tuple") (hm0 : X.mg "tuple" = none) (hg : Gl X "range") (hm : X.mg "range" = none) (ha : PA X [a] ta)
  (hs0 : starEach [.Call (.Name "range" p2) [a] [] pos2] X.env = [(false,eval (.Call (.Name "range" p2) [a] [] pos2) X.env)] := by rfl) (hs : starEach [a] X.env = [(false,eval a X.env)] := by rfl) :
  PE X (.Call (.Name "tuple" p) [.Call (.Name "range" p2) [a] [] pos2] [] pos) (PV ta) := by
 intro pins s σ H Q I h
 refine Call_ (Cb I hg0 hm0 Bn (PyProof.Rows.callWith_type1 (by
  rw [hs0]
  refine Calls.spliced_cons (Call_ (Cb I hg hm boot_range (PyProof.Rows.callWith_type1 (An (ha pos2 pins s σ H _ I h) fun us s1 ⟨vs,H1,I1,r1,q1⟩ => ?_) hs rfl)))
  obtain ⟨n,e,hn,q⟩ := q1
  subst e
  cases r1 with
  | cons r rr =>
   cases rr
   obtain ⟨t,rfl⟩ := r
   refine call_range_1 (Calls.spliced_nil ?_)
   have rg := IsRange.new s1.heap 0 (n : Int) 1 s1.toks t (s1.toks + 1)
   refine PP (T := "range") (I.ok.hd hc) ⟨_,rg,rfl⟩ (by decide) (PK (n := n) rg (small_one (by omega) (by omega) (by omega) (by omega)) (by rw [rangeSize_one]; split <;> omega) (by omega)) fun vs s2 ⟨it,h',tk,kp,e⟩ => ?_
   subst e
   have hv := Od it
   have lv : vs.length <= sizeLine := by
    have := it.1
    simp at this
    have : (1000 : Nat) <= sizeLine := by decide
    omega
   exact ⟨lv,Ae.gotNew (t' := tk) (I1.kept (t' := tk) fun b o e => kp b o (Heap.get?_push_of_some _ e)) (fun r H' sm k => q r H' sm k) (by simpa using hv) (by rw [List.length_map,List.length_range]; exact Nat.le_trans hn (by decide))⟩) hs0 rfl))
end
end L2
end
section
namespace MF
open PySem PySem.Spec PyProof.Rows L2
def top (i : Nat) : Stmt := PySem.Challenge.pw_mainfires_k58_whole_fewest_and_alone.main.body.getD i (.Pass ⟨0, 0, 0, 0⟩)
abbrev s_is_whole : Stmt := top 7
abbrev s_is_whole_from : Stmt := top 8
abbrev s_is_tuple_of : Stmt := top 9
abbrev s_is_rising : Stmt := top 10
abbrev s_is_plant : Stmt := top 19
abbrev s_are_boilers : Stmt := top 20
abbrev s_is_make_and_coal : Stmt := top 21
abbrev s_are_engines : Stmt := top 22
abbrev s_is_engine : Stmt := top 23
abbrev s_is_main : Stmt := top 24
abbrev s_need_plant : Stmt := top 25
abbrev s_is_story : Stmt := top 26
abbrev s_is_fault : Stmt := top 27
abbrev s_need_story : Stmt := top 28
abbrev s_caps_of : Stmt := top 29
abbrev s_caps_in : Stmt := top 30
abbrev s_words_for : Stmt := top 31
abbrev s_cap_under : Stmt := top 32
abbrev s_draws_of : Stmt := top 33
abbrev s_drawn_by : Stmt := top 34
abbrev s_terms_of : Stmt := top 35
abbrev s_is_firing : Stmt := top 36
abbrev s_is_firing_within : Stmt := top 37
abbrev s_is_row : Stmt := top 38
abbrev s_need_firing : Stmt := top 39
abbrev s_run_day : Stmt := top 41
abbrev s_falls_at : Stmt := top 42
abbrev s_keeps_up : Stmt := top 43
abbrev s_coal_of : Stmt := top 44
abbrev s_steam_by : Stmt := top 45
abbrev s_is_stretch : Stmt := top 47
abbrev s_is_too_much : Stmt := top 48
abbrev s_is_shown : Stmt := top 49
abbrev s_is_short_paper : Stmt := top 50
abbrev s_least_stretch : Stmt := top 51
abbrev s_floor_at : Stmt := top 53
abbrev s_highest_floor : Stmt := top 54
abbrev s_tails_from : Stmt := top 55
abbrev s_coal_under : Stmt := top 56
abbrev s_least_firing : Stmt := top 57
abbrev s_cheapest : Stmt := top 60
abbrev s_least_coal : Stmt := top 61
abbrev s_is_set : Stmt := top 63
abbrev s_sets_of : Stmt := top 64
abbrev s_first_behind : Stmt := top 65
abbrev s_with_only : Stmt := top 66
abbrev s_does : Stmt := top 67
abbrev s_smaller_sets : Stmt := top 68
abbrev s_fewest : Stmt := top 69
abbrev s_fewest_holds : Stmt := top 70
abbrev s_is_lit_paper : Stmt := top 71
abbrev s_are_shown : Stmt := top 72
abbrev s_alone : Stmt := top 73
abbrev s_needed : Stmt := top 74
abbrev s_without : Stmt := top 75
abbrev s__law_cell : Stmt := top 77
abbrev s__law_pen : Stmt := top 78
abbrev s__law_draw : Stmt := top 79
abbrev s__law_plant : Stmt := top 80
abbrev s__law_story : Stmt := top 81
abbrev s__law_caps : Stmt := top 82
abbrev s__law_draws : Stmt := top 83
abbrev s__law_mains : Stmt := top 84
abbrev s__law_keeps : Stmt := top 85
abbrev s__law_pair : Stmt := top 86
abbrev s__law_any_pair : Stmt := top 87
abbrev s__law_right : Stmt := top 88
abbrev s_law : Stmt := top 89
structure Tx (mg : Str -> Option Value) : Prop where
 b_all : mg "all" = none
 b_bool : mg "bool" = none
 b_divmod : mg "divmod" = none
 b_enumerate : mg "enumerate" = none
 b_int : mg "int" = none
 b_isinstance : mg "isinstance" = none
 b_len : mg "len" = none
 b_list : mg "list" = none
 b_max : mg "max" = none
 b_min : mg "min" = none
 b_range : mg "range" = none
 b_reversed : mg "reversed" = none
 b_sorted : mg "sorted" = none
 b_sum : mg "sum" = none
 b_tuple : mg "tuple" = none
 b_zip : mg "zip" = none
 g_MOST_BOILERS : ∃ t,mg "MOST_BOILERS" = some (.int 4 t)
 g_MOST_ENGINES : ∃ t,mg "MOST_ENGINES" = some (.int 4 t)
 g_MOST_FAULTS : ∃ t,mg "MOST_FAULTS" = some (.int 4 t)
 g_MOST_HOURS : ∃ t,mg "MOST_HOURS" = some (.int 8 t)
 g_MOST_UNITS : ∃ t,mg "MOST_UNITS" = some (.int 9 t)
 g_MOST_EXTRA : ∃ t,mg "MOST_EXTRA" = some (.int 20 t)
 g_MOST_IN_MAIN : ∃ t,mg "MOST_IN_MAIN" = some (.int 40 t)
def PX : PyData -> Bool | .int _ => true | _ => false
def BB (d : PyData) (lo hi : Int) : Bool := match d with | .int i => decide (lo <= i) && decide (i <= hi) | _ => false
def A9 (d : PyData) (lo hi : Int) : Bool := match d with | .tuple ds => decide (lo <= (ds.length : Int)) && decide ((ds.length : Int) <= hi) | _ => false
def F9 : Sp := fun vs H Q _ => match vs with | [v] => ∃ p d,Aa p H d v /\ ∀ b,b = PX d -> Q (.bl b) H | _ => False
def Id : Sp := fun vs H Q _ => match vs with | [v,.int lo,.int hi] => ∃ p d,Aa p H d v /\ ∀ b,b = BB d lo hi -> Q (.bl b) H | _ => False
def Ie : Sp := fun vs H Q _ => match vs with | [v,.int lo,.int hi] => ∃ p d,Aa p H d v /\ ∀ b,b = A9 d lo hi -> Q (.bl b) H | _ => False
section
variable {P : Program} {w : World} {K : PySem.W.Frag} {mg : Str -> Option Value} {base : Heap}
theorem PY : Aw ["thing"] ["thing"] (Ap s_is_whole) := Ax
theorem PZ (F : Df K mg "is_whole" s_is_whole ["thing"]) (T : Tx mg)  : Fn P w K mg base 1 "is_whole" ["thing"] F9 := by
 refine F.fn PY (fun vs H Q E h => ?_) (fun f cdv A outer s H vs Q E hr h => ?_)
 ·unfold F9 at h; split at h; rfl; exact h.elim
 refine ⟨_,(Al (Ao (AZ (AB Hz rfl T.b_isinstance boot_isinstance (As (cx 0 (by rfl)) (G0 (v := .ty "int") rfl T.b_int L2.boot_int rfl (by decide) (by decide)) (by rfl)) (by decide) (by decide) (by rfl) (by rfl)) (Bl (Ni (AB Hz rfl T.b_isinstance boot_isinstance (As (cx 0 (by rfl)) (G0 (v := .ty "bool") rfl T.b_bool L2.boot_bool rfl (by decide) (by decide)) (by rfl)) (by decide) (by decide) (by rfl) (by rfl))))))),?_⟩
 unfold F9 at h
 split at h
 ·rename_i v
  obtain ⟨p,d,r,q⟩ := h
  refine ⟨_,r.ty,.inl rfl,⟨fun c => ⟨_,r.ty,.inr (.inl rfl),?_⟩,fun c => ?_⟩⟩
  ·exact q _ (by cases d <;> first | rfl | cases c)
  ·exact q _ (by cases d <;> first | rfl | cases c)
 ·exact h.elim
theorem P0 : Aw ["thing","least","most"] ["thing","least","most"] (Ap s_is_whole_from) := Ax
abbrev C7 (P : Program) (w : World) (K : PySem.W.Frag) (mg : Str -> Option Value) (base : Heap) : Prop := Fn P w K mg base 2 "is_whole_from" ["thing","least","most"] Id
theorem P4 (F : Df K mg "is_whole_from" s_is_whole_from ["thing","least","most"]) (T : Tx mg) (D_is_whole : Fn P w K mg base 1 "is_whole" ["thing"] F9) : C7 P w K mg base := by
 refine F.fn P0 (fun vs H Q E h => ?_) (fun f cdv A outer s H vs Q E hr h => ?_)
 ·unfold Id at h; split at h; rfl; exact h.elim
 refine ⟨_,(Al (Ao (AZ (Ag D_is_whole (hr.mono (by decide)) rfl (Aq (cx 0 (by rfl)) (by rfl)) (by decide) (by rfl) (by rfl)) (Bl (JA CH CH (cx 1 (by rfl)) (cx 0 (by rfl)) (cx 2 (by rfl)) (by with_unfolding_all rfl)))))),?_⟩
 unfold Id at h
 split at h
 ·rename_i v lo hi
  obtain ⟨p,d,r,q⟩ := h
  refine ⟨p,d,r,fun b hb => ⟨fun c => ?_,fun c => ?_⟩⟩
  ·subst c
   cases d <;> first | cases hb | skip
   rename_i i
   unfold Aa at r
   subst r
   refine ⟨fun c => ?_,fun c => ?_⟩
   ·exact q _ (by unfold BB; dsimp only; rw [c]; rfl)
   ·exact q _ (by unfold BB; dsimp only; rw [c]; rfl)
  ·subst c
   exact q _ (by cases d <;> first | rfl | cases hb)
 ·exact h.elim
theorem P5 : Aw ["thing","fewest","most"] ["thing","fewest","most"] (Ap s_is_tuple_of) := Ax
abbrev BR (P : Program) (w : World) (K : PySem.W.Frag) (mg : Str -> Option Value) (base : Heap) : Prop := Fn P w K mg base 1 "is_tuple_of" ["thing","fewest","most"] Ie
theorem P6 (F : Df K mg "is_tuple_of" s_is_tuple_of ["thing","fewest","most"]) (T : Tx mg)  : BR P w K mg base := by
 refine F.fn P5 (fun vs H Q E h => ?_) (fun f cdv A outer s H vs Q E hr h => ?_)
 ·unfold Ie at h; split at h; rfl; exact h.elim
 refine ⟨_,(Al (Ao (AZ (AB Hz rfl T.b_isinstance boot_isinstance (As (cx 0 (by rfl)) (G0 (v := .ty "tuple") rfl T.b_tuple Bn rfl (by decide) (by decide)) (by rfl)) (by decide) (by decide) (by rfl) (by rfl)) (Bl (JA CH CH (cx 1 (by rfl)) (AB (Bb K (by rfl)) rfl T.b_len PySem.boot_len (Aq (cx 0 (by rfl)) (by rfl)) (by decide) (by decide) (by rfl) (by rfl)) (cx 2 (by rfl)) (by with_unfolding_all rfl)))))),?_⟩
 unfold Ie at h
 split at h
 ·rename_i v lo hi
  obtain ⟨p,d,r,q⟩ := h
  refine ⟨_,r.ty,.inr (.inr (.inl rfl)),⟨fun c => ?_,fun c => ?_⟩⟩
  ·cases d <;> first | cases c | skip
   rename_i ds
   unfold Aa at r
   obtain ⟨a,xs,rfl,ha,rs⟩ := r
   refine ⟨a,xs,rfl,.inr (Ad.of ha),?_⟩
   rw [<- rs.len]
   refine ⟨fun c => ?_,fun c => ?_⟩
   ·exact q _ (by unfold A9; dsimp only; rw [c]; rfl)
   ·exact q _ (by unfold A9; dsimp only; rw [c]; rfl)
  ·exact q _ (by cases d <;> first | rfl | cases c)
 ·exact h.elim
end
end MF
end
section
namespace MF
open PySem PySem.Spec PyProof.Rows L2
variable {p : Addr} {H : Hp} {a : PyData} {xs : List V}
theorem KP {α β : Type} {ds : List α} {i : Nat} {d : α} (f : α -> β) (h : ds[i]? = some d) : (ds.take (i + 1)).map f = (ds.take i).map f ++ [f d] := by
 rw [List.take_add_one,h,List.map_append]; rfl
def DQ (d : PyData) : Bool := match d with | .tuple [a,b] => BB a 1 9 && BB b 1 9 | _ => false
def Dq (d : PyData) : Bool := match d with | .tuple [a,b,c] => BB a 1 9 && BB b 0 7 && BB c 1 8 | _ => false
def DR (d : PyData) : Bool := match d with
 | .tuple [a,b,c] => BB b 0 40 && match b with | .int hi => BB c 0 hi && (match c with | .int st => BB a 0 st | _ => false) | _ => false
 | _ => false
def Er (d : PyData) : Bool := match d with | .tuple ds => A9 d 1 4 && ds.all DQ | _ => false
def Es (d : PyData) : Bool := match d with | .tuple ds => A9 d 0 4 && ds.all Dq | _ => false
def Et (d : PyData) : Bool := match d with | .tuple [a,b,c] => Er a && Es b && DR c | _ => false
def Ca (f : PyData -> Bool) : Sp := fun vs H Q _ => match vs with | [v] => ∃ p d,Aa p H d v /\ ∀ b H',b = f d -> Ab H H' -> Q (.bl b) H' | _ => False
theorem Eu {f : PyData -> Bool} {vs H Q E} (h : Ca f vs H Q E) : vs.length = 1 := by unfold Ca at h; split at h; rfl; exact h.elim
abbrev Ga : Sp := Ca DQ
abbrev Gb : Sp := Ca Dq
abbrev Gc : Sp := Ca DR
abbrev Gd : Sp := Ca Er
abbrev Ge : Sp := Ca Es
abbrev Gf : Sp := Ca Et
theorem P7 {vs H Q E} (h : Ga vs H Q E) : vs.length = 1 := Eu h
theorem P8 {vs H Q E} (h : Gb vs H Q E) : vs.length = 1 := Eu h
theorem P9 {vs H Q E} (h : Gc vs H Q E) : vs.length = 1 := Eu h
theorem Qa {vs H Q E} (h : Gd vs H Q E) : vs.length = 1 := Eu h
theorem Qb {vs H Q E} (h : Ge vs H Q E) : vs.length = 1 := Eu h
theorem Qc {vs H Q E} (h : Gf vs H Q E) : vs.length = 1 := Eu h
theorem two {ds : List PyData} (h : A9 (.tuple ds) 2 2 = true) : ∃ a b,ds = [a,b] := by
 unfold A9 at h; simp only [Bool.and_eq_true,decide_eq_true_eq] at h
 match ds,h with
 | [a,b],_ => exact ⟨a,b,rfl⟩
 | [],h => simp at h
 | [_],h => simp at h
 | _ :: _ :: _ :: _,h => simp at h; omega
theorem three {ds : List PyData} (h : A9 (.tuple ds) 3 3 = true) : ∃ a b c,ds = [a,b,c] := by
 unfold A9 at h; simp only [Bool.and_eq_true,decide_eq_true_eq] at h
 match ds,h with
 | [a,b,c],_ => exact ⟨a,b,c,rfl⟩
 | [],h => simp at h
 | [_],h => simp at h
 | [_,_],h => simp at h
 | _ :: _ :: _ :: _ :: _,h => simp at h; omega
theorem DS {d : PyData} {lo hi : Int} (h : A9 d lo hi = true) : ∃ ds,d = .tuple ds := by
 cases d <;> first | exact ⟨_,rfl⟩ | cases h
theorem Aa.shape {ds : List PyData} {v : V} (r : Aa p H (.tuple ds) v) : ∃ a xs,v = .ref a /\ H a = some (.tup xs) /\ Ac p H ds xs := by unfold Aa at r; exact r
theorem Ac.two {b : PyData} (r : Ac p H [a,b] xs) : ∃ x y,xs = [x,y] /\ Aa p H a x /\ Aa p H b y := by
 unfold Ac at r; obtain ⟨x,s,rfl,hx,r⟩ := r; unfold Ac at r; obtain ⟨y,s,rfl,hy,r⟩ := r; unfold Ac at r; subst r; exact ⟨x,y,rfl,hx,hy⟩
theorem Ac.three {b c : PyData} (r : Ac p H [a,b,c] xs) : ∃ x y z,xs = [x,y,z] /\ Aa p H a x /\ Aa p H b y /\ Aa p H c z := by
 unfold Ac at r; obtain ⟨x,s,rfl,hx,r⟩ := r; obtain ⟨y,z,rfl,hy,hz⟩ := Ac.two r; exact ⟨x,y,z,rfl,hx,hy,hz⟩
section
variable {P : Program} {w : World} {K : PySem.W.Frag} {mg : Str -> Option Value} {base : Heap}
theorem sc_is_make_and_coal : Aw ["thing","make","coal"] ["thing"] (Ap s_is_make_and_coal) := Ax
theorem Qd (F : Df K mg "is_make_and_coal" s_is_make_and_coal ["thing"]) (T : Tx mg) (D_is_tuple_of : BR P w K mg base) (D_is_whole_from : C7 P w K mg base) : Fn P w K mg base 3 "is_make_and_coal" ["thing"] Ga := by
 obtain ⟨t_MOST_UNITS,g_MOST_UNITS⟩ := T.g_MOST_UNITS
 refine F.fn sc_is_make_and_coal (fun vs H Q E h => ?_) (fun f cdv A outer s H vs Q E hr h => ?_)
 ·exact P7 h
 refine ⟨_,(Aj (A1 (BT (BG (Ag D_is_tuple_of (hr.mono (by decide)) rfl (AL (cx 0 (by rfl)) Af Af (by rfl)) (by decide) (by rfl) (by rfl)) (by intro _; rfl))) (Al (Ao BC)) AY) (Aj (A7 (cx 0 (by rfl)) (AD K (n := 2) (Ah (Ak 1 sc_is_make_and_coal.nd (by rfl)) (Ah (Ak 2 sc_is_make_and_coal.nd (by rfl)) AC (by rfl)) (by rfl)) (by rfl) (by rfl) (by rfl) (by rfl)) (by rfl) (by rfl) (by rfl)) (Al (Ao (AZ (Ag D_is_whole_from (hr.mono (by decide)) rfl (AL (cx 1 (by rfl)) Af (Cq (v := .int 9) rfl g_MOST_UNITS ⟨t_MOST_UNITS,rfl⟩ (by decide)) (by rfl)) (by decide) (by rfl) (by rfl)) (Bl (Ag D_is_whole_from (hr.mono (by decide)) rfl (AL (cx 2 (by rfl)) Af (Cq (v := .int 9) rfl g_MOST_UNITS ⟨t_MOST_UNITS,rfl⟩ (by decide)) (by rfl)) (by decide) (by rfl) (by rfl)))))))),?_⟩
 unfold Ga Ca at h
 split at h
 ·rename_i v
  obtain ⟨p,d,r,q⟩ := h
  refine ⟨p,d,r,fun b hb => ⟨fun c => ?_,fun c => ?_⟩⟩
  ·refine q false H ?_ (Ab.refl _)
   have e : A9 d 2 2 = false := by rw [<- hb]; simpa using c
   cases d <;> first | rfl | skip
   rename_i ds
   match ds,e with
   | [a,b],e => cases e
   | [],_ => rfl
   | [_],_ => rfl
   | _ :: _ :: _ :: _,_ => rfl
  ·have e : A9 d 2 2 = true := by rw [<- hb]; simpa using c
   obtain ⟨ds,rfl⟩ := DS e
   obtain ⟨a,b,rfl⟩ := two e
   obtain ⟨l,xs,rfl,hl,rs⟩ := Aa.shape r
   obtain ⟨x,y,rfl,rx,ry⟩ := Ac.two rs
   refine ⟨l,[x,y],rfl,Ad.of hl,rfl,x,[y],rfl,y,[],rfl,rfl,p,a,rx,fun b1 e1 => ⟨fun c => ⟨p,b,ry,fun b2 e2 => ?_⟩,fun c => ?_⟩⟩
   ·exact q _ _ (by unfold DQ; dsimp only; rw [e2,<- e1,c]; rfl) (Ab.refl _)
   ·exact q _ _ (by unfold DQ; dsimp only; rw [<- e1,c]; rfl) (Ab.refl _)
 ·exact h.elim
theorem sc_is_engine : Aw ["thing","draw","first","every"] ["thing"] (Ap s_is_engine) := Ax
theorem Qe (F : Df K mg "is_engine" s_is_engine ["thing"]) (T : Tx mg) (D_is_tuple_of : BR P w K mg base) (D_is_whole_from : C7 P w K mg base) : Fn P w K mg base 3 "is_engine" ["thing"] Gb := by
 obtain ⟨t_MOST_HOURS,g_MOST_HOURS⟩ := T.g_MOST_HOURS
 obtain ⟨t_MOST_UNITS,g_MOST_UNITS⟩ := T.g_MOST_UNITS
 refine F.fn sc_is_engine (fun vs H Q E h => ?_) (fun f cdv A outer s H vs Q E hr h => ?_)
 ·exact P8 h
 refine ⟨_,(Aj (A1 (BT (BG (Ag D_is_tuple_of (hr.mono (by decide)) rfl (AL (cx 0 (by rfl)) Af Af (by rfl)) (by decide) (by rfl) (by rfl)) (by intro _; rfl))) (Al (Ao BC)) AY) (Aj (A7 (cx 0 (by rfl)) (AD K (n := 3) (Ah (Ak 1 sc_is_engine.nd (by rfl)) (Ah (Ak 2 sc_is_engine.nd (by rfl)) (Ah (Ak 3 sc_is_engine.nd (by rfl)) AC (by rfl)) (by rfl)) (by rfl)) (by rfl) (by rfl) (by rfl) (by rfl)) (by rfl) (by rfl) (by rfl)) (Al (Ao (AZ (Ag D_is_whole_from (hr.mono (by decide)) rfl (AL (cx 1 (by rfl)) Af (Cq (v := .int 9) rfl g_MOST_UNITS ⟨t_MOST_UNITS,rfl⟩ (by decide)) (by rfl)) (by decide) (by rfl) (by rfl)) (AZ (Ag D_is_whole_from (hr.mono (by decide)) rfl (AL (cx 2 (by rfl)) Af (Av BF (Cq (v := .int 8) rfl g_MOST_HOURS ⟨t_MOST_HOURS,rfl⟩ (by decide)) Af) (by rfl)) (by decide) (by rfl) (by rfl)) (Bl (Ag D_is_whole_from (hr.mono (by decide)) rfl (AL (cx 3 (by rfl)) Af (Cq (v := .int 8) rfl g_MOST_HOURS ⟨t_MOST_HOURS,rfl⟩ (by decide)) (by rfl)) (by decide) (by rfl) (by rfl))))))))),?_⟩
 unfold Gb Ca at h
 split at h
 ·rename_i v
  obtain ⟨p,d,r,q⟩ := h
  refine ⟨p,d,r,fun b hb => ⟨fun c => ?_,fun c => ?_⟩⟩
  ·refine q false H ?_ (Ab.refl _)
   have e : A9 d 3 3 = false := by rw [<- hb]; simpa using c
   cases d <;> first | rfl | skip
   rename_i ds
   match ds,e with
   | [a,b,c],e => cases e
   | [],_ => rfl
   | [_],_ => rfl
   | [_,_],_ => rfl
   | _ :: _ :: _ :: _ :: _,_ => rfl
  ·have e : A9 d 3 3 = true := by rw [<- hb]; simpa using c
   obtain ⟨ds,rfl⟩ := DS e
   obtain ⟨a,b,c',rfl⟩ := three e
   obtain ⟨l,xs,rfl,hl,rs⟩ := Aa.shape r
   obtain ⟨x,y,z,rfl,rx,ry,rz⟩ := Ac.three rs
   refine ⟨l,[x,y,z],rfl,Ad.of hl,rfl,x,[y,z],rfl,y,[z],rfl,z,[],rfl,rfl,p,a,rx,fun b1 e1 => ⟨fun c => ⟨p,b,ry,fun b2 e2 => ⟨fun c2 => ⟨p,c',rz,fun b3 e3 => ?_⟩,fun c2 => ?_⟩⟩,fun c => ?_⟩⟩
   ·exact q _ _ (by unfold Dq; dsimp only; rw [e3,<- e1,c]; rw [show BB b 0 7 = true from by rw [<- c2,e2]; rfl]; rfl) (Ab.refl _)
   ·exact q _ _ (by unfold Dq; dsimp only; rw [<- e1,c]; rw [show BB b 0 7 = false from by rw [<- c2,e2]; rfl]; rfl) (Ab.refl _)
   ·exact q _ _ (by unfold Dq; dsimp only; rw [<- e1,c]; rfl) (Ab.refl _)
 ·exact h.elim
theorem sc_is_main : Aw ["thing","low","high","start"] ["thing"] (Ap s_is_main) := Ax
theorem Qf (F : Df K mg "is_main" s_is_main ["thing"]) (T : Tx mg) (D_is_tuple_of : BR P w K mg base) (D_is_whole_from : C7 P w K mg base) : Fn P w K mg base 3 "is_main" ["thing"] Gc := by
 obtain ⟨t_MOST_IN_MAIN,g_MOST_IN_MAIN⟩ := T.g_MOST_IN_MAIN
 refine F.fn sc_is_main (fun vs H Q E h => ?_) (fun f cdv A outer s H vs Q E hr h => ?_)
 ·exact P9 h
 refine ⟨_,(Aj (A1 (BT (BG (Ag D_is_tuple_of (hr.mono (by decide)) rfl (AL (cx 0 (by rfl)) Af Af (by rfl)) (by decide) (by rfl) (by rfl)) (by intro _; rfl))) (Al (Ao BC)) AY) (Aj (A7 (cx 0 (by rfl)) (AD K (n := 3) (Ah (Ak 1 sc_is_main.nd (by rfl)) (Ah (Ak 2 sc_is_main.nd (by rfl)) (Ah (Ak 3 sc_is_main.nd (by rfl)) AC (by rfl)) (by rfl)) (by rfl)) (by rfl) (by rfl) (by rfl) (by rfl)) (by rfl) (by rfl) (by rfl)) (Al (Ao (AZ (Ag D_is_whole_from (hr.mono (by decide)) rfl (AL (cx 2 (by rfl)) Af (Cq (v := .int 40) rfl g_MOST_IN_MAIN ⟨t_MOST_IN_MAIN,rfl⟩ (by decide)) (by rfl)) (by decide) (by rfl) (by rfl)) (AZ (Ag D_is_whole_from (hr.mono (by decide)) rfl (AL (cx 3 (by rfl)) Af (cx 2 (by rfl)) (by rfl)) (by decide) (by rfl) (by rfl)) (Bl (Ag D_is_whole_from (hr.mono (by decide)) rfl (AL (cx 1 (by rfl)) Af (cx 3 (by rfl)) (by rfl)) (by decide) (by rfl) (by rfl))))))))),?_⟩
 unfold Gc Ca at h
 split at h
 ·rename_i v
  obtain ⟨p,d,r,q⟩ := h
  refine ⟨p,d,r,fun b hb => ⟨fun c => ?_,fun c => ?_⟩⟩
  ·refine q false H ?_ (Ab.refl _)
   have e : A9 d 3 3 = false := by rw [<- hb]; simpa using c
   cases d <;> first | rfl | skip
   rename_i ds
   match ds,e with
   | [a,b,c],e => cases e
   | [],_ => rfl
   | [_],_ => rfl
   | [_,_],_ => rfl
   | _ :: _ :: _ :: _ :: _,_ => rfl
  ·have e : A9 d 3 3 = true := by rw [<- hb]; simpa using c
   obtain ⟨ds,rfl⟩ := DS e
   obtain ⟨a,b,c',rfl⟩ := three e
   obtain ⟨l,xs,rfl,hl,rs⟩ := Aa.shape r
   obtain ⟨x,y,z,rfl,rx,ry,rz⟩ := Ac.three rs
   refine ⟨l,[x,y,z],rfl,Ad.of hl,rfl,x,[y,z],rfl,y,[z],rfl,z,[],rfl,rfl,p,b,ry,fun b1 e1 => ⟨fun c1 => ?_,fun c1 => ?_⟩⟩
   ·rw [c1] at e1
    cases b <;> first | cases e1 | skip
    rename_i hi
    unfold Aa at ry
    subst ry
    refine ⟨p,c',rz,fun b2 e2 => ⟨fun c2 => ?_,fun c2 => ?_⟩⟩
    ·rw [c2] at e2
     cases c' <;> first | cases e2 | skip
     rename_i st
     unfold Aa at rz
     subst rz
     refine ⟨p,a,rx,fun b3 e3 => ?_⟩
     exact q _ _ (by unfold DR; dsimp only; rw [e3]; rw [<- e1,<- e2]; rfl) (Ab.refl _)
    ·exact q _ _ (by unfold DR; dsimp only; rw [<- e1,<- e2,c2]; rfl) (Ab.refl _)
   ·exact q _ _ (by unfold DR; dsimp only; rw [<- e1,c1]; rfl) (Ab.refl _)
 ·exact h.elim
theorem Qg : Aw ["thing"] ["thing"] (Ap s_are_boilers) := Ax
theorem Qh (F : Df K mg "are_boilers" s_are_boilers ["thing"]) (T : Tx mg) (D_is_make_and_coal : Fn P w K mg base 3 "is_make_and_coal" ["thing"] Ga) (D_is_tuple_of : BR P w K mg base) : Fn P w K mg base 4 "are_boilers" ["thing"] Gd := by
 obtain ⟨t_MOST_BOILERS,g_MOST_BOILERS⟩ := T.g_MOST_BOILERS
 refine F.fn Qg (fun vs H Q E h => ?_) (fun f cdv A outer s H vs Q E hr h => ?_)
 ·exact Qa h
 refine ⟨_,(Al (Ao (AZ (Ag D_is_tuple_of (hr.mono (by decide)) rfl (AL (cx 0 (by rfl)) Af (Cq (v := .int 4) rfl g_MOST_BOILERS ⟨t_MOST_BOILERS,rfl⟩ (by decide)) (by rfl)) (by decide) (by rfl) (by rfl)) (Bl (AB (CZ rfl) rfl T.b_all boot_all (Aq (A4 ["part"] [none] rfl (Bz K (cx 0 (by rfl)) (by rfl)) (AG.of rfl) (fun _ _ _ _ => (Ak 0 (Az (by rfl)) (by rfl))) (fun _ _ _ _ => A3) (fun _ _ _ _ => (Ag D_is_make_and_coal (hr.mono (by decide)) rfl (Aq (cx 0 (by rfl)) (by rfl)) (by decide) (by rfl) (by rfl))) (by intro _; rfl)) (by rfl)) (by decide) (by decide) (by rfl) (by rfl)))))),?_⟩
 unfold Gd Ca at h
 split at h
 ·rename_i v
  obtain ⟨p,d,r,q⟩ := h
  refine ⟨p,d,r,fun b hb => ⟨fun c => ?_,fun c => ?_⟩⟩
  ·rw [c] at hb
   obtain ⟨ds,rfl⟩ := DS hb.symm
   obtain ⟨l,xs,rfl,hl,rs⟩ := Aa.shape r
   have hlen := rs.len
   have hsm : ds.length <= 4 := by
    have := hb.symm; unfold A9 at this; simp only [Bool.and_eq_true,decide_eq_true_eq] at this; omega
   refine ⟨l,rfl,⟨xs,Ad.of hl⟩,BO (xs := xs) (fun i ys H' => Ab H H' /\ ys = (ds.take i).map fun d => V.bl (DQ d)) (by omega) ⟨Ab.refl _,rfl⟩ (fun i ys H' h => by rw [h.2,List.length_map,List.length_take]; omega) (fun i ys H' _ h => Ad.of (h.1 _ _ hl)) (fun i x ys H' hx h => ?_) fun ys H' h => ?_⟩
   ·obtain ⟨d,hd,rd⟩ := rs.got hx
    refine ⟨trivial,fun _ => ⟨p,d,Aa.ev (Ev.same h.1) d x rd,fun b H2 e s2 => ⟨h.1.trans s2,?_⟩⟩,fun c => by cases c⟩
    rw [h.2,e,KP _ hd]
   ·intro m hm
    refine ⟨m,ds.map DQ,rfl,?_,?_⟩
    ·rw [Ai,h.2,<- hlen,List.take_length,List.map_map]; rfl
    ·refine q _ _ ?_ (h.1.trans (Ab.new hm))
     unfold Er; dsimp only; rw [<- hb,List.all_map,Bool.true_and]; rfl
  ·refine q _ _ ?_ (Ab.refl _)
   have e : A9 d 1 4 = false := by rw [<- hb,c]
   unfold Er
   cases d <;> first | rfl | skip
   dsimp only; rw [e]; rfl
 ·exact h.elim
theorem Qi : Aw ["thing"] ["thing"] (Ap s_are_engines) := Ax
theorem Qj (F : Df K mg "are_engines" s_are_engines ["thing"]) (T : Tx mg) (D_is_engine : Fn P w K mg base 3 "is_engine" ["thing"] Gb) (D_is_tuple_of : BR P w K mg base) : Fn P w K mg base 4 "are_engines" ["thing"] Ge := by
 obtain ⟨t_MOST_ENGINES,g_MOST_ENGINES⟩ := T.g_MOST_ENGINES
 refine F.fn Qi (fun vs H Q E h => ?_) (fun f cdv A outer s H vs Q E hr h => ?_)
 ·exact Qb h
 refine ⟨_,(Al (Ao (AZ (Ag D_is_tuple_of (hr.mono (by decide)) rfl (AL (cx 0 (by rfl)) Af (Cq (v := .int 4) rfl g_MOST_ENGINES ⟨t_MOST_ENGINES,rfl⟩ (by decide)) (by rfl)) (by decide) (by rfl) (by rfl)) (Bl (AB (CZ rfl) rfl T.b_all boot_all (Aq (A4 ["part"] [none] rfl (Bz K (cx 0 (by rfl)) (by rfl)) (AG.of rfl) (fun _ _ _ _ => (Ak 0 (Az (by rfl)) (by rfl))) (fun _ _ _ _ => A3) (fun _ _ _ _ => (Ag D_is_engine (hr.mono (by decide)) rfl (Aq (cx 0 (by rfl)) (by rfl)) (by decide) (by rfl) (by rfl))) (by intro _; rfl)) (by rfl)) (by decide) (by decide) (by rfl) (by rfl)))))),?_⟩
 unfold Ge Ca at h
 split at h
 ·rename_i v
  obtain ⟨p,d,r,q⟩ := h
  refine ⟨p,d,r,fun b hb => ⟨fun c => ?_,fun c => ?_⟩⟩
  ·rw [c] at hb
   obtain ⟨ds,rfl⟩ := DS hb.symm
   obtain ⟨l,xs,rfl,hl,rs⟩ := Aa.shape r
   have hlen := rs.len
   have hsm : ds.length <= 4 := by
    have := hb.symm; unfold A9 at this; simp only [Bool.and_eq_true,decide_eq_true_eq] at this; omega
   refine ⟨l,rfl,⟨xs,Ad.of hl⟩,BO (xs := xs) (fun i ys H' => Ab H H' /\ ys = (ds.take i).map fun d => V.bl (Dq d)) (by omega) ⟨Ab.refl _,rfl⟩ (fun i ys H' h => by rw [h.2,List.length_map,List.length_take]; omega) (fun i ys H' _ h => Ad.of (h.1 _ _ hl)) (fun i x ys H' hx h => ?_) fun ys H' h => ?_⟩
   ·obtain ⟨d,hd,rd⟩ := rs.got hx
    refine ⟨trivial,fun _ => ⟨p,d,Aa.ev (Ev.same h.1) d x rd,fun b H2 e s2 => ⟨h.1.trans s2,?_⟩⟩,fun c => by cases c⟩
    rw [h.2,e,KP _ hd]
   ·intro m hm
    refine ⟨m,ds.map Dq,rfl,?_,?_⟩
    ·rw [Ai,h.2,<- hlen,List.take_length,List.map_map]; rfl
    ·refine q _ _ ?_ (h.1.trans (Ab.new hm))
     unfold Es; dsimp only; rw [<- hb,List.all_map,Bool.true_and]; rfl
  ·refine q _ _ ?_ (Ab.refl _)
   have e : A9 d 0 4 = false := by rw [<- hb,c]
   unfold Es
   cases d <;> first | rfl | skip
   dsimp only; rw [e]; rfl
 ·exact h.elim
theorem sc_is_plant : Aw ["thing","boilers","engines","main"] ["thing"] (Ap s_is_plant) := Ax
theorem Qk (F : Df K mg "is_plant" s_is_plant ["thing"]) (T : Tx mg) (D_are_boilers : Fn P w K mg base 4 "are_boilers" ["thing"] Gd) (D_are_engines : Fn P w K mg base 4 "are_engines" ["thing"] Ge) (D_is_main : Fn P w K mg base 3 "is_main" ["thing"] Gc) (D_is_tuple_of : BR P w K mg base) : Fn P w K mg base 5 "is_plant" ["thing"] Gf := by
 refine F.fn sc_is_plant (fun vs H Q E h => ?_) (fun f cdv A outer s H vs Q E hr h => ?_)
 ·exact Qc h
 refine ⟨_,(Aj (A1 (BT (BG (Ag D_is_tuple_of (hr.mono (by decide)) rfl (AL (cx 0 (by rfl)) Af Af (by rfl)) (by decide) (by rfl) (by rfl)) (by intro _; rfl))) (Al (Ao BC)) AY) (Aj (A7 (cx 0 (by rfl)) (AD K (n := 3) (Ah (Ak 1 sc_is_plant.nd (by rfl)) (Ah (Ak 2 sc_is_plant.nd (by rfl)) (Ah (Ak 3 sc_is_plant.nd (by rfl)) AC (by rfl)) (by rfl)) (by rfl)) (by rfl) (by rfl) (by rfl) (by rfl)) (by rfl) (by rfl) (by rfl)) (Al (Ao (AZ (Ag D_are_boilers (hr.mono (by decide)) rfl (Aq (cx 1 (by rfl)) (by rfl)) (by decide) (by rfl) (by rfl)) (AZ (Ag D_are_engines (hr.mono (by decide)) rfl (Aq (cx 2 (by rfl)) (by rfl)) (by decide) (by rfl) (by rfl)) (Bl (Ag D_is_main (hr.mono (by decide)) rfl (Aq (cx 3 (by rfl)) (by rfl)) (by decide) (by rfl) (by rfl))))))))),?_⟩
 unfold Gf Ca at h
 split at h
 ·rename_i v
  obtain ⟨p,d,r,q⟩ := h
  refine ⟨p,d,r,fun b hb => ⟨fun c => ?_,fun c => ?_⟩⟩
  ·refine q false H ?_ (Ab.refl _)
   have e : A9 d 3 3 = false := by rw [<- hb]; simpa using c
   cases d <;> first | rfl | skip
   rename_i ds
   match ds,e with
   | [a,b,c],e => cases e
   | [],_ => rfl
   | [_],_ => rfl
   | [_,_],_ => rfl
   | _ :: _ :: _ :: _ :: _,_ => rfl
  ·have e : A9 d 3 3 = true := by rw [<- hb]; simpa using c
   obtain ⟨ds,rfl⟩ := DS e
   obtain ⟨a,b,c',rfl⟩ := three e
   obtain ⟨l,xs,rfl,hl,rs⟩ := Aa.shape r
   obtain ⟨x,y,z,rfl,rx,ry,rz⟩ := Ac.three rs
   refine ⟨l,[x,y,z],rfl,Ad.of hl,rfl,x,[y,z],rfl,y,[z],rfl,z,[],rfl,rfl,p,a,rx,fun b1 H1 e1 s1 => ⟨fun c => ⟨p,b,Aa.ev (Ev.same s1) _ _ ry,fun b2 H2 e2 s2 => ⟨fun c2 => ⟨p,c',Aa.ev (Ev.same (s1.trans s2)) _ _ rz,fun b3 H3 e3 s3 => ?_⟩,fun c2 => ?_⟩⟩,fun c => ?_⟩⟩
   ·exact q _ _ (by unfold Et; dsimp only; rw [e3,<- e1,<- e2,c,c2]; rfl) (s1.trans (s2.trans s3))
   ·exact q _ _ (by unfold Et; dsimp only; rw [<- e1,<- e2,c,c2]; rfl) (s1.trans s2)
   ·exact q _ _ (by unfold Et; dsimp only; rw [<- e1,c]; rfl) s1
 ·exact h.elim
end
end MF
end
section
namespace MF
open PySem PySem.Spec PyProof.Rows L2
variable {p a : Addr} {H : Hp}
def Bc (p : Addr) (H : Hp) : Prop := ∃ l f : Int,H p = some (.lst [.int l,.int f])
theorem Bc.new {o : HO} (h : Bc p H) (n : H a = none) : Bc p (upd H a o) := by
 obtain ⟨l,f,e⟩ := h; exact ⟨l,f,by rw [Au (Bd e n)]; exact e⟩
theorem Bc.ne (h : Bc p H) (n : H a = none) : a ≠ p := by obtain ⟨l,f,e⟩ := h; exact Ne.symm (Bd e n)
theorem Bc.same {H' : Hp} (h : Bc p H) (s : Ab H H') : Bc p H' := by obtain ⟨l,f,e⟩ := h; exact ⟨l,f,s _ _ e⟩
def Gg (K : PySem.W.Frag) : Sp := fun vs H Q _ => match vs with | [.ref a,.int k] => ∃ ns : List Int,Am K H a (ns.map V.int) /\ 0 <= k /\ ∀ i,Q (.int i) H | _ => False
def Gh : Sp := fun vs H Q _ => match vs with | [.int c] => ∀ p l f,H p = none -> Q (.ref p) (upd H p (.lst [.int l,.int f])) | _ => False
def EY : Sp := fun vs H Q _ => match vs with | [.ref p,.int m] => Bc p H /\ 0 < m /\ m < 1000 /\ ∀ g H',0 <= g -> g < m -> Ev p H H' -> Bc p H' -> Q (.int g) H' | _ => False
theorem Ds {ns : List Int} {g : Int} (h0 : 0 <= g) (h1 : g < ns.length) : ∃ v ∈ ns,Co (ns.map V.int) g = some (.int v) := by
 have hk : g.toNat < ns.length := by omega
 have e : g = ((g.toNat : Nat) : Int) := by omega
 refine ⟨ns[g.toNat],List.getElem_mem hk,?_⟩
 have q : Co (ns.map V.int) ((g.toNat : Nat) : Int) = some (.int ns[g.toNat]) := Dg (by simp [hk])
 rw [<- e] at q
 exact q
section
variable {P : Program} {w : World} {K : PySem.W.Frag} {mg : Str -> Option Value} {base : Heap}
theorem Ql : Aw ["_law_script","_law_k"] ["_law_script","_law_k"] (Ap s__law_cell) := Ax
theorem Qm (F : Df K mg "_law_cell" s__law_cell ["_law_script","_law_k"]) (T : Tx mg)  : Fn P w K mg base 1 "_law_cell" ["_law_script","_law_k"] (Gg K) := by
 refine F.fn Ql (fun vs H Q E h => ?_) (fun f cdv A outer s H vs Q E hr h => ?_)
 ·unfold Gg at h; split at h; rfl; exact h.elim
 refine ⟨_,(Aj (A1 (AW DE (cx 1 (by rfl)) (AB (Bb K (by rfl)) rfl T.b_len PySem.boot_len (Aq (cx 0 (by rfl)) (by rfl)) (by decide) (by decide) (by rfl) (by rfl)) (AQ _)) (Al (Ao (AF (BY K (by rfl)) (cx 0 (by rfl)) (cx 1 (by rfl)) (fun _ _ => rfl)))) AY) (Al (Ao Af))),?_⟩
 unfold Gg at h
 split at h
 ·rename_i a k
  obtain ⟨ns,hs,h0,q⟩ := h
  refine ⟨a,_,rfl,.inl hs,⟨fun c => ?_,fun c => q 0⟩⟩
  have c' : k < (ns.length : Int) := by have := of_decide_eq_true c; simpa using this
  obtain ⟨v,_,e⟩ := Ds h0 c'
  exact ⟨a,_,k,.int v,rfl,rfl,hs,e,q v⟩
 ·exact h.elim
theorem sc__law_pen : Aw ["_law_cell_here","_law_more"] ["_law_cell_here"] (Ap s__law_pen) := Ax
theorem Qn (F : Df K mg "_law_pen" s__law_pen ["_law_cell_here"]) (T : Tx mg)  : Fn P w K mg base 1 "_law_pen" ["_law_cell_here"] Gh := by
 refine F.fn sc__law_pen (fun vs H Q E h => ?_) (fun f cdv A outer s H vs Q E hr h => ?_)
 ·unfold Gh at h; split at h; rfl; exact h.elim
 refine ⟨_,(Aj (AE (i := 1) sc__law_pen.nd rfl (AA (by rfl)) (AB (IR rfl) rfl T.b_max boot_max (As (cx 0 (by rfl)) (Av BF Af (cx 0 (by rfl))) (by rfl)) (by decide) (by decide) (by rfl) (by rfl)) (by rfl) (AR (by rfl))) (Al (Ao (BH (As (cx 1 (by rfl)) (Bi Hd rfl T.b_int L2.boot_int (Aq (BM Na (cx 1 (by rfl)) (Av M9 Af Af) (AQ _)) (by rfl)) (by decide) (by decide) (by rfl) (by rfl)) (by rfl)))))),?_⟩
 unfold Gh at h
 split at h
 ·rename_i c
  refine ⟨c,0 - c,rfl,?_⟩
  exact ⟨⟨by decide,by decide,by decide⟩,.inr ⟨_,rfl,fun p hp => h p _ _ hp⟩⟩
 ·exact h.elim
theorem sc__law_draw : Aw ["_law_pen_here","_law_many","_law_rest","_law_drawn","_law_stir"] ["_law_pen_here","_law_many"] (Ap s__law_draw) := Ax
theorem Qo (F : Df K mg "_law_draw" s__law_draw ["_law_pen_here","_law_many"]) (T : Tx mg)  : Fn P w K mg base 1 "_law_draw" ["_law_pen_here","_law_many"] EY := by
 refine F.fn sc__law_draw (fun vs H Q E h => ?_) (fun f cdv A outer s H vs Q E hr h => ?_)
 ·unfold EY at h; split at h; rfl; exact h.elim
 refine ⟨_,(Aj (A1 (AW Ct (AF (BY K (by rfl)) (cx 0 (by rfl)) Af (fun _ _ => rfl)) Af (AQ _)) (Aj (A7 (AB L3 rfl T.b_divmod boot_divmod (As (AF (BY K (by rfl)) (cx 0 (by rfl)) Af (fun _ _ => rfl)) (cx 1 (by rfl)) (by rfl)) (by decide) (by decide) (by rfl) (by rfl)) (AD K (n := 2) (Ah (Ak 2 sc__law_draw.nd (by rfl)) (Ah (Ak 3 sc__law_draw.nd (by rfl)) AC (by rfl)) (by rfl)) (by rfl) (by rfl) (by rfl) (by rfl)) (by rfl) (by rfl) (by rfl)) (Aj (A7 (cx 2 (by rfl)) (Iz (cx 0 (by rfl)) Af Jd (by intro _; rfl)) (by rfl) (by rfl) (by rfl)) (Al (Ao (cx 3 (by rfl)))))) AY) (Aj (AE (i := 4) sc__law_draw.nd rfl (AA (by rfl)) (Av D8 (Av CY (Av A8 (Av D8 (AF (BY K (by rfl)) (cx 0 (by rfl)) Af (fun _ _ => rfl)) Af) Af) Af) Af) (by rfl) (AR (by rfl))) (Aj (AE (i := 4) sc__law_draw.nd rfl (AA (by rfl)) (Av D8 (Av A8 (Av CY (cx 4 (by rfl)) (cx 4 (by rfl))) Af) Af) (by rfl) (AR (by rfl))) (Aj (A7 (Av D8 (Av A8 (Av CY (cx 4 (by rfl)) Af) Af) Af) (Iz (cx 0 (by rfl)) Af Jd (by intro _; rfl)) (by rfl) (by rfl) (by rfl)) (Al (Ao (Av D8 (Av FN (AF (BY K (by rfl)) (cx 0 (by rfl)) Af (fun _ _ => rfl)) Af) (cx 1 (by rfl))))))))),?_⟩
 unfold EY at h
 split at h
 ·rename_i p m
  obtain ⟨⟨l,f,hp⟩,h0,h1,q⟩ := h
  refine ⟨p,[.int l,.int f],1,.int f,rfl,rfl,Am.of hp,rfl,rfl,⟨fun c => ?_,fun c => ?_⟩⟩
  ·refine ⟨p,[.int l,.int f],0,.int l,rfl,rfl,Am.of hp,rfl,l,m,rfl,⟨h0,by omega⟩,fun t ht => ?_⟩
   have hpt : p ≠ t := Bd hp ht
   have hp' : upd H t (.tup [.int (l / m),.int (l % m)]) p = some (.lst [.int l,.int f]) := by rw [Au hpt]; exact hp
   refine ⟨t,[.int (l / m),.int (l % m)],rfl,Ad.of Ai,rfl,_,_,rfl,_,_,rfl,rfl,?_⟩
   refine ⟨p,[.int l,.int f],0,0,rfl,rfl,hp',rfl,?_⟩
   exact q _ _ (Int.emod_nonneg _ (by omega)) (Int.emod_lt_of_pos _ h0) ((Ev.new ht).trans (Ev.pen hp')) ⟨l / m,f,Ai⟩
  ·have b1 : ∀ x : Int,-(2 ^ 64) < x % 2147483629 := fun x => Int.lt_of_lt_of_le (by decide) (Int.emod_nonneg x (by decide))
   have b2 : ∀ x : Int,x % 2147483629 < 2 ^ 64 := fun x => Int.lt_trans (Int.emod_lt_of_pos x (by decide)) (by decide)
   have g1 : (0 : Int) < 2147483647 := by decide
   have g2 : (0 : Int) < 2147483629 := by decide
   have g3 : (0 : Int) < 2147483587 := by decide
   have c1 : -(2 ^ 64) < (69621 : Int) /\ (69621 : Int) < 2 ^ 64 := by decide
   have c2 : -(2 ^ 64) < (48271 : Int) /\ (48271 : Int) < 2 ^ 64 := by decide
   refine ⟨p,[.int l,.int f],0,.int l,rfl,rfl,Am.of hp,rfl,g1,.inr c1,g2,.inl ⟨b1 _,b2 _⟩,g3,.inr c2,g2,p,[.int l,.int f],0,0,rfl,rfl,hp,rfl,?_⟩
   refine ⟨p,_,0,_,rfl,rfl,Am.of Ai,rfl,⟨by decide,by decide⟩,h0,?_⟩
   exact q _ _ (Int.emod_nonneg _ (by omega)) (Int.emod_lt_of_pos _ h0) (Ev.pen hp) ⟨_,f,Ai⟩
 ·exact h.elim
end
end MF
end
section
namespace MF
open PySem PySem.Spec PyProof.Rows L2
variable {H H2 H' H3 : Hp} {ys zs : List V} {p p' t : Addr} {Good : PyData -> Prop} {i : Nat}
mutual
def Cj : PyData -> Bool
 | .list _ => false | .dict _ => false | .tuple ds => Ew ds | _ => true
def Ew : List PyData -> Bool
 | [] => true
 | d :: ds => Cj d && Ew ds
end
def TEv (H H' : Hp) : Prop := ∀ a xs,H a = some (.tup xs) -> H' a = some (.tup xs)
theorem TEv.trans {H1 : Hp} (a : TEv H H1) (b : TEv H1 H2) : TEv H H2 := fun c o h => b c o (a c o h)
theorem _root_.L2.Ev.tev {p : Addr} {H H' : Hp} (h : Ev p H H') : TEv H H' := fun a xs q => h.tup q
theorem TEv.upd {a : Addr} (h : H a = some (.lst ys)) : TEv H (upd H a (.lst zs)) := fun b xs q => by
 rw [Au (Lp q h (by intro z; cases z))]; exact q
mutual
theorem Aa.tev (h : TEv H H') : ∀ (d : PyData) (v : V),Cj d = true -> Aa p H d v -> Aa p' H' d v
 | .none,v,_,q => q
 | .bool _,v,_,q => q
 | .int _,v,_,q => q
 | .str _,v,_,q => q
 | .tuple ds,v,n,q => by
  unfold Aa at q ⊢
  obtain ⟨a,xs,e,r,z⟩ := q
  exact ⟨a,xs,e,h _ _ r,Ac.tev h ds xs (by unfold Cj at n; exact n) z⟩
 | .list ds,v,n,q => by unfold Cj at n; cases n
 | .dict kvs,v,n,q => by unfold Cj at n; cases n
theorem Ac.tev (h : TEv H H') : ∀ (ds : List PyData) (xs : List V),Ew ds = true -> Ac p H ds xs -> Ac p' H' ds xs
 | [],xs,_,q => by unfold Ac at q ⊢; exact q
 | d :: ds,xs,n,q => by
  unfold Ac at q ⊢
  unfold Ew at n
  obtain ⟨n1,n2⟩ := Bool.and_eq_true_iff.mp n
  obtain ⟨x,r,e,z,zs⟩ := q
  exact ⟨x,r,e,Aa.tev h d x n1 z,Ac.tev h ds r n2 zs⟩
end
theorem EZ {ds : List PyData} (h : ∀ d ∈ ds,Cj d = true) : Ew ds = true := by
 induction ds with
 | nil => rfl
 | cons d ds ih => unfold Ew; rw [h d List.mem_cons_self,ih fun x hx => h x (List.mem_cons_of_mem _ hx)]; rfl
theorem _root_.L2.Ev.own {p b : Addr} {H H' : Hp} {o : HO} (h : Ev p H H') (n : H b = none) : Ev p H (upd H' b o) := fun x u q => (h x u q).elim .inl fun r => .inr (by rw [Au (Bd q n)]; exact r)
def GoodB (d : PyData) : Prop := ∃ m c : Int,d = .tuple [.int m,.int c] /\ 1 <= m /\ m <= 9 /\ 1 <= c /\ c <= 9
def GoodE (d : PyData) : Prop := ∃ a f e : Int,d = .tuple [.int a,.int f,.int e] /\ 1 <= a /\ a <= 9 /\ 0 <= f /\ f <= 7 /\ 1 <= e /\ e <= 8
theorem GoodB.nm {d : PyData} (h : GoodB d) : Cj d = true := by obtain ⟨m,c,rfl,_⟩ := h; rfl
theorem GoodE.nm {d : PyData} (h : GoodE d) : Cj d = true := by obtain ⟨m,c,e,rfl,_⟩ := h; rfl
structure GoodP (bs es : List PyData) (lo hi st : Int) : Prop where
 b : ∀ d ∈ bs,GoodB d
 b1 : 1 <= bs.length
 b4 : bs.length <= 4
 e : ∀ d ∈ es,GoodE d
 e4 : es.length <= 4
 lo0 : 0 <= lo
 ls : lo <= st
 sh : st <= hi
 h4 : hi <= 40
def KQ (bs es : List PyData) (lo hi st : Int) : PyData := .tuple [.tuple bs,.tuple es,.tuple [.int lo,.int hi,.int st]]
def E1 : Sp := fun vs H Q _ => match vs with | [.ref p,.int m] => Bc p H /\ 1 <= m /\ m <= 4 /\ ∀ v H' bs es lo hi st,GoodP bs es lo hi st -> Aa p H' (KQ bs es lo hi st) v -> Ev p H H' -> Bc p H' -> Q v H' | _ => False
structure Filled (Good : PyData -> Prop) (p b : Addr) (H H2 : Hp) (i : Nat) : Prop where
 ev : Ev p H H2
 pen : Bc p H2
 ex : ∃ xs ds,H2 b = some (.lst xs) /\ Ac p H2 ds xs /\ (∀ d ∈ ds,Good d) /\ ds.length = i
theorem Filled.step {b : Addr} {d : PyData} {xs : List V} {ds : List PyData} (nm : ∀ d,Good d -> Cj d = true) (hx : H2 b = some (.lst xs)) (rs : Ac p H2 ds xs) (gd : ∀ d ∈ ds,Good d) (hl : ds.length = i) (e3 : Ev p H2 H3) (nb : b ≠ p) (hb : H b = none) (ev : Ev p H H3) (pn : Bc p H3)
  (ht : H3 t = none) (rd : Aa p (upd H3 t (.tup ys)) d (.ref t)) (g : Good d) : Filled Good p b H (upd (upd H3 t (.tup ys)) b (.lst (xs ++ [.ref t]))) (i + 1) := by
 have hb3 : H3 b = some (.lst xs) := e3.lst hx nb
 have hbt : b ≠ t := Bd hb3 ht
 have hbt' : upd H3 t (.tup ys) b = some (.lst xs) := by rw [Au hbt]; exact hb3
 have tv : TEv (upd H3 t (.tup ys)) (upd (upd H3 t (.tup ys)) b (.lst (xs ++ [.ref t]))) := TEv.upd hbt'
 have pn2 : Bc p (upd H3 t (.tup ys)) := pn.new ht
 refine ⟨(ev.trans (Ev.new ht)).own hb,?_,xs ++ [.ref t],ds ++ [d],Ai,?_,?_,by simp [hl]⟩
 ·obtain ⟨l,f,e⟩ := pn2
  exact ⟨l,f,by rw [Au (Ne.symm nb)]; exact e⟩
 ·exact (Ac.tev ((e3.trans (Ev.new ht)).tev.trans tv) ds xs (EZ fun d h => nm d (gd d h)) rs).append (.cons (Aa.tev tv d _ (nm d g) rd) .nil)
 ·intro x hx
  rcases List.mem_append.mp hx with h | h
  ·exact gd x h
  ·rw [List.mem_singleton.mp h]; exact g
theorem Filled.done {b : Addr} (f : Filled Good p b H H2 i) (nb : b ≠ p) (e3 : Ev p H2 H3) : ∃ xs ds,H3 b = some (.lst xs) /\ Ac p H3 ds xs /\ (∀ d ∈ ds,Good d) /\ ds.length = i := by
 obtain ⟨xs,ds,h1,h2,h3,h4⟩ := f.ex
 exact ⟨xs,ds,e3.lst h1 nb,Ac.ev e3 ds xs h2,h3,h4⟩
theorem Filled.other {b e : Addr} {H4 H7 : Hp} {ws : List V} (nm : ∀ d,Good d -> Cj d = true) (f : Filled Good p b H H4 i) (e47 : Ev p H4 H7) (ht : H7 t = none) (he : H7 e = some (.lst ys)) (hHe : H e = none) (nb : b ≠ p) (neb : b ≠ e) (ne : e ≠ p) (pn : Bc p H7) :
  Filled Good p b H (upd (upd H7 t (.tup zs)) e (.lst ws)) i := by
 obtain ⟨xs,ds,h1,h2,h3,h4⟩ := f.ex
 have h7 : H7 b = some (.lst xs) := e47.lst h1 nb
 have het : upd H7 t (.tup zs) e = some (.lst ys) := by rw [Au (Bd he ht)]; exact he
 refine ⟨((f.ev.trans e47).trans (Ev.new ht)).own hHe,?_,xs,ds,?_,?_,h3,h4⟩
 ·obtain ⟨l,g,z⟩ := pn.new (o := .tup zs) ht
  exact ⟨l,g,by rw [Au (Ne.symm ne)]; exact z⟩
 ·rw [Au neb,Au (Bd h7 ht)]; exact h7
 ·exact Ac.tev ((e47.trans (Ev.new ht)).tev.trans (TEv.upd het)) ds xs (EZ fun d h => nm d (h3 d h)) h2
theorem C8 {n : Nat} (h : n <= 1000) : n < sizeLine := Nat.lt_of_le_of_lt h (by decide)
section
variable {P : Program} {w : World} {K : PySem.W.Frag} {mg : Str -> Option Value} {base : Heap}
theorem sc__law_plant : Aw ["_law_pen_here","_law_most","_law_boilers","_law_turn","_law_engines","_law_low","_law_high","_law_start"] ["_law_pen_here","_law_most"] (Ap s__law_plant) := Ax
theorem Qp (F : Df K mg "_law_plant" s__law_plant ["_law_pen_here","_law_most"]) (T : Tx mg) (D__law_draw : Fn P w K mg base 1 "_law_draw" ["_law_pen_here","_law_many"] EY) : Fn P w K mg base 2 "_law_plant" ["_law_pen_here","_law_most"] E1 := by
 refine F.fn sc__law_plant (fun vs H Q E h => ?_) (fun f cdv A outer s H vs Q E hr h => ?_)
 ·unfold E1 at h; split at h; rfl; exact h.elim
 refine ⟨_,(Aj (AE (i := 2) sc__law_plant.nd rfl (AA (by rfl)) (BH BV) (by rfl) (AR (by rfl))) (Aj (BK PassesOwn.never rfl (BU rfl T.b_range (Aq (Av A8 Af (Ag D__law_draw (hr.mono (by decide)) rfl (As (cx 0 (by rfl)) (cx 1 (by rfl)) (by rfl)) (by decide) (by rfl) (by rfl))) (by rfl)) (by rfl)) (Ak 3 sc__law_plant.nd (by rfl)) (Al (Cc (Dh PySem.F.plainAttrs_list PySem.F.slot_list_append PySem.F.type_list_append Di (cx 2 (by rfl)) (Aq (Bs (As (Av A8 Af (Ag D__law_draw (hr.mono (by decide)) rfl (As (cx 0 (by rfl)) (AF (BY K (by rfl)) (BH (As Af Af (by rfl))) (Ag D__law_draw (hr.mono (by decide)) rfl (As (cx 0 (by rfl)) Af (by rfl)) (by decide) (by rfl) (by rfl)) (fun _ _ => rfl)) (by rfl)) (by decide) (by rfl) (by rfl))) (Av A8 Af (Ag D__law_draw (hr.mono (by decide)) rfl (As (cx 0 (by rfl)) Af (by rfl)) (by decide) (by rfl) (by rfl))) (by rfl))) (by rfl)) (by rfl) (by rfl) (by rfl) (by rfl) (by rfl)) (by rfl))) (by intro _; rfl)) (Aj (AE (i := 4) sc__law_plant.nd rfl (AA (by rfl)) (BH BV) (by rfl) (AR (by rfl))) (Aj (BK PassesOwn.never rfl (BU rfl T.b_range (Aq (Ag D__law_draw (hr.mono (by decide)) rfl (As (cx 0 (by rfl)) Af (by rfl)) (by decide) (by rfl) (by rfl)) (by rfl)) (by rfl)) (Ak 3 sc__law_plant.nd (by rfl)) (Al (Cc (Dh PySem.F.plainAttrs_list PySem.F.slot_list_append PySem.F.type_list_append Di (cx 4 (by rfl)) (Aq (Bs (AL (Av A8 Af (Ag D__law_draw (hr.mono (by decide)) rfl (As (cx 0 (by rfl)) (AF (BY K (by rfl)) (BH (As Af Af (by rfl))) (Ag D__law_draw (hr.mono (by decide)) rfl (As (cx 0 (by rfl)) Af (by rfl)) (by decide) (by rfl) (by rfl)) (fun _ _ => rfl)) (by rfl)) (by decide) (by rfl) (by rfl))) (Ag D__law_draw (hr.mono (by decide)) rfl (As (cx 0 (by rfl)) Af (by rfl)) (by decide) (by rfl) (by rfl)) (Av A8 Af (Ag D__law_draw (hr.mono (by decide)) rfl (As (cx 0 (by rfl)) Af (by rfl)) (by decide) (by rfl) (by rfl))) (by rfl))) (by rfl)) (by rfl) (by rfl) (by rfl) (by rfl) (by rfl)) (by rfl))) (by intro _; rfl)) (Aj (AE (i := 5) sc__law_plant.nd rfl (AA (by rfl)) (AF (BY K (by rfl)) (BH (C1 Af Af (Ag D__law_draw (hr.mono (by decide)) rfl (As (cx 0 (by rfl)) Af (by rfl)) (by decide) (by rfl) (by rfl)) (Ag D__law_draw (hr.mono (by decide)) rfl (As (cx 0 (by rfl)) Af (by rfl)) (by decide) (by rfl) (by rfl)) (by rfl))) (Ag D__law_draw (hr.mono (by decide)) rfl (As (cx 0 (by rfl)) Af (by rfl)) (by decide) (by rfl) (by rfl)) (fun _ _ => rfl)) (by rfl) (AR (by rfl))) (Aj (AE (i := 6) sc__law_plant.nd rfl (AA (by rfl)) (AB (Hc rfl) rfl T.b_min boot_min (As Af (Av A8 (cx 5 (by rfl)) (AF (BY K (by rfl)) (BH (C1 Af (Ag D__law_draw (hr.mono (by decide)) rfl (As (cx 0 (by rfl)) Af (by rfl)) (by decide) (by rfl) (by rfl)) (Ag D__law_draw (hr.mono (by decide)) rfl (As (cx 0 (by rfl)) Af (by rfl)) (by decide) (by rfl) (by rfl)) Af (by rfl))) (Ag D__law_draw (hr.mono (by decide)) rfl (As (cx 0 (by rfl)) Af (by rfl)) (by decide) (by rfl) (by rfl)) (fun _ _ => rfl))) (by rfl)) (by decide) (by decide) (by rfl) (by rfl)) (by rfl) (AR (by rfl))) (Aj (AE (i := 7) sc__law_plant.nd rfl (AA (by rfl)) (AF (BY K (by rfl)) (BH (AL (cx 5 (by rfl)) (cx 6 (by rfl)) (Av A8 (cx 5 (by rfl)) (Ag D__law_draw (hr.mono (by decide)) rfl (As (cx 0 (by rfl)) (Av A8 (Av BF (cx 6 (by rfl)) (cx 5 (by rfl))) Af) (by rfl)) (by decide) (by rfl) (by rfl))) (by rfl))) (Ag D__law_draw (hr.mono (by decide)) rfl (As (cx 0 (by rfl)) Af (by rfl)) (by decide) (by rfl) (by rfl)) (fun _ _ => rfl)) (by rfl) (AR (by rfl))) (Al (Ao (Bs (AL (Bi (Bu K (by rfl)) rfl T.b_tuple Bn (Aq (cx 2 (by rfl)) (by rfl)) (by decide) (by decide) (by rfl) (by rfl)) (Bi (Bu K (by rfl)) rfl T.b_tuple Bn (Aq (cx 4 (by rfl)) (by rfl)) (by decide) (by decide) (by rfl) (by rfl)) (Bs (AL (cx 5 (by rfl)) (cx 6 (by rfl)) (cx 7 (by rfl)) (by rfl))) (by rfl)))))))))))),?_⟩
 unfold E1 at h
 split at h
 ·rename_i p m
  obtain ⟨pn,m1,m4,q⟩ := h
  refine fun b hb => ?_
  have nb : b ≠ p := pn.ne hb
  refine ⟨pn.new hb,by omega,by omega,fun g1 H1 a1 b1 e1 pn1 => ?_⟩
  have ev1 : Ev p H H1 := (Ev.new hb).trans e1
  have hb1 : H1 b = some (.lst []) := e1.lst Ai nb
  refine ⟨1 + g1,rfl,by omega,by omega,Dx (n := (1 + g1).toNat) (fun i σ H2 => ∃ t,σ = [some (.ref p),some (.int m),some (.ref b),t,none,none,none,none] /\ Filled GoodB p b H H2 i)
   ⟨none,rfl,ev1,pn1,[],[],hb1,.nil,(fun _ h => nomatch h),rfl⟩ (fun i σ H2 hi hP => ?_) fun σ H2 hP => ?_⟩
  ·obtain ⟨t,rfl,ev,pn2,xs,ds,hx,rs,gd,hl⟩ := hP
   refine ⟨.inl ⟨rfl,_,Am.of hx⟩,fun l1 hl1 => ⟨pn2.new hl1,by decide,by decide,fun g2 H3 a2 b2 e2 pn3 => ?_⟩⟩
   obtain ⟨v,hv,hat⟩ := Ds (ns := [9,4]) a2 (by simpa using b2)
   have hv' : v = 9 \/ v = 4 := by simpa using hv
   refine ⟨l1,_,g2,.int v,rfl,rfl,Am.of (e2.lst Ai (pn2.ne hl1)),hat,pn3,by omega,by omega,fun g3 H4 a3 b3 e3 pn4 => ⟨pn4,by decide,by decide,fun g4 H5 a4 b4 e4 pn5 t1 ht1 => ?_⟩⟩
   have e25 : Ev p H2 H5 := (Ev.new hl1).trans (e2.trans (e3.trans e4))
   refine ⟨b,xs,.ref t1,rfl,rfl,by rw [Au (Bd (e25.lst hx nb) ht1)]; exact e25.lst hx nb,C8 (by rw [<- rs.len,hl]; omega),_,rfl,?_⟩
   exact Filled.step (fun d h => h.nm) hx rs gd hl e25 nb hb (ev.trans e25) pn5 ht1 (Aa.tup Ai (.cons Aa.int (.cons Aa.int .nil))) ⟨1 + g3,1 + g4,rfl,by omega,by omega,by omega,by omega⟩
  obtain ⟨t,rfl,fb⟩ := hP
  refine fun e he => ?_
  have ne : e ≠ p := fb.pen.ne he
  have hne : H e = none := by
   cases z : H e with
   | none => rfl
   | some o => exact ((fb.ev e o z).elim (fun ⟨x,_⟩ => absurd x ne) fun x => by rw [x] at he; cases he)
  have neb : e ≠ b := by
   obtain ⟨xs,ds,h1,_⟩ := fb.ex
   exact Ne.symm (Bd h1 he)
  refine ⟨fb.pen.new he,by decide,by decide,fun g6 H3 a6 b6 e6 pn3 => ?_⟩
  have fb3 : Filled GoodB p b H H3 (1 + g1).toNat := ⟨fb.ev.trans ((Ev.new he).trans e6),pn3,fb.done nb ((Ev.new he).trans e6)⟩
  refine ⟨g6,rfl,by omega,by omega,Dx (n := g6.toNat) (fun i σ H4 => ∃ t,σ = [some (.ref p),some (.int m),some (.ref b),t,some (.ref e),none,none,none] /\ Filled GoodB p b H H4 (1 + g1).toNat /\ Filled GoodE p e H H4 i)
   ⟨_,rfl,fb3,fb3.ev,pn3,[],[],e6.lst Ai ne,.nil,(fun _ h => nomatch h),rfl⟩ (fun i σ H4 hi hP => ?_) fun σ H4 hP => ?_⟩
  ·obtain ⟨t,rfl,fb4,ev,pn2,xs,ds,hx,rs,gd,hl⟩ := hP
   refine ⟨.inl ⟨rfl,_,Am.of hx⟩,fun l1 hl1 => ⟨pn2.new hl1,by decide,by decide,fun g7 H5 a7 b7 e7 pn5 => ?_⟩⟩
   obtain ⟨v,hv,hat⟩ := Ds (ns := [3,9]) a7 (by simpa using b7)
   have hv' : v = 3 \/ v = 9 := by simpa using hv
   refine ⟨l1,_,g7,.int v,rfl,rfl,Am.of (e7.lst Ai (pn2.ne hl1)),hat,pn5,by omega,by omega,fun g8 H6 a8 b8 e8 pn6 => ⟨pn6,by decide,by decide,fun g9 H7 a9 b9 e9 pn7 => ⟨pn7,by decide,by decide,fun g10 H8 a10 b10 e10 pn8 t1 ht1 => ?_⟩⟩⟩
   have e48 : Ev p H4 H8 := (Ev.new hl1).trans (e7.trans (e8.trans (e9.trans e10)))
   have he8 := e48.lst hx ne
   refine ⟨e,xs,.ref t1,rfl,rfl,by rw [Au (Bd he8 ht1)]; exact he8,C8 (by rw [<- rs.len,hl]; omega),_,rfl,?_,?_⟩
   ·exact Filled.other (fun d h => h.nm) fb4 e48 ht1 he8 hne nb (Ne.symm neb) ne pn8
   ·exact Filled.step (fun d h => h.nm) hx rs gd hl e48 ne hne (ev.trans e48) pn8 ht1 (Aa.tup Ai (.cons Aa.int (.cons Aa.int (.cons Aa.int .nil)))) ⟨1 + g8,g9,1 + g10,rfl,by omega,by omega,by omega,by omega,by omega,by omega⟩
  obtain ⟨t,rfl,fb4,fe4⟩ := hP
  have pn4 := fb4.pen
  refine ⟨pn4,by decide,by decide,fun g7 H5 a7 b7 e7 pn5 => ⟨pn5,by decide,by decide,fun g8 H6 a8 b8 e8 pn6 l1 hl1 => ⟨pn6.new hl1,by decide,by decide,fun g9 H7 a9 b9 e9 pn7 => ?_⟩⟩⟩
  obtain ⟨low,hlow,hat⟩ := Ds (ns := [0,0,g7,g8]) a9 (by simpa using b9)
  have hlow' : low = 0 \/ low = 0 \/ low = g7 \/ low = g8 := by simpa using hlow
  refine ⟨l1,_,g9,.int low,rfl,rfl,Am.of (e9.lst Ai (pn6.ne hl1)),hat,pn7,by decide,by decide,fun g10 H8 a10 b10 e10 pn8 => ⟨pn8,by decide,by decide,fun g11 H9 a11 b11 e11 pn9 l2 hl2 => ⟨pn9.new hl2,by decide,by decide,fun g12 H10 a12 b12 e12 pn10 => ?_⟩⟩⟩
  obtain ⟨x,hx,hat2⟩ := Ds (ns := [0,g10,g11,40]) a12 (by simpa using b12)
  have hx' : x = 0 \/ x = g10 \/ x = g11 \/ x = 40 := by simpa using hx
  refine ⟨l2,_,g12,.int x,rfl,rfl,Am.of (e12.lst Ai (pn9.ne hl2)),hat2,40,low + x,rfl,?_⟩
  have hhi : ∃ hi : Int,(if low + x < 40 then low + x else 40) = hi /\ low <= hi /\ hi <= 40 := by
   by_cases c : low + x < 40
   ·exact ⟨low + x,if_pos c,by omega,by omega⟩
   ·exact ⟨40,if_neg c,by omega,by omega⟩
  obtain ⟨hi,ehi,hi1,hi2⟩ := hhi
  rw [ehi]
  refine ⟨pn10,by omega,by omega,fun g13 H11 a13 b13 e13 pn11 l3 hl3 => ⟨pn11.new hl3,by decide,by decide,fun g14 H12 a14 b14 e14 pn12 => ?_⟩⟩
  obtain ⟨st,hst,hat3⟩ := Ds (ns := [low,hi,low + g13]) a14 (by simpa using b14)
  have hst' : st = low \/ st = hi \/ st = low + g13 := by simpa using hst
  refine ⟨l3,_,g14,.int st,rfl,rfl,Am.of (e14.lst Ai (pn11.ne hl3)),hat3,?_⟩
  have e4C : Ev p H4 H12 := e7.trans (e8.trans ((Ev.new hl1).trans (e9.trans (e10.trans (e11.trans ((Ev.new hl2).trans (e12.trans (e13.trans ((Ev.new hl3).trans e14)))))))))
  obtain ⟨xs,bs,hb8,rb8,gb,lb⟩ := fb4.done nb e4C
  obtain ⟨ys,es,he8,re8,ge,le⟩ := fe4.done ne e4C
  refine ⟨b,xs,rfl,.inl ⟨Am.of hb8,fun c1 hc1 => ⟨e,ys,rfl,.inl ⟨Am.of (by rw [Au (Bd he8 hc1)]; exact he8),fun c2 hc2 c3 hc3 c4 hc4 => ?_⟩⟩⟩⟩
  have nA := Ab.new (o := .tup xs) hc1
  have nB := Ab.new (o := .tup ys) hc2
  have nC := Ab.new (o := .tup [.int low,.int hi,.int st]) hc3
  have nD := Ab.new (o := .tup [.ref c1,.ref c2,.ref c3]) hc4
  have sAll := nA.trans (nB.trans (nC.trans nD))
  refine q _ _ bs es low hi st ⟨gb,by omega,by omega,ge,by omega,by omega,by omega,by omega,hi2⟩ ?_ (fb4.ev.trans (e4C.trans (Ev.same sAll))) (pn12.same sAll)
  exact Aa.tup Ai (.cons (Aa.tup ((nB.trans (nC.trans nD)) _ _ Ai) (Ac.ev (Ev.same sAll) _ _ rb8)) (.cons (Aa.tup ((nC.trans nD) _ _ Ai) (Ac.ev (Ev.same sAll) _ _ re8)) (.cons (Aa.tup (nD _ _ Ai) (.cons Aa.int (.cons Aa.int (.cons Aa.int .nil)))) .nil)))
 ·exact h.elim
end
end MF
end
section
namespace MF
open PySem PySem.Spec PyProof.Rows L2
variable {p : Addr} {H : Hp} {v : V}
theorem BS {i lo hi : Int} (h1 : lo <= i) (h2 : i <= hi) : BB (.int i) lo hi = true := by unfold BB; dsimp only; rw [decide_eq_true h1,decide_eq_true h2]; rfl
theorem Dt {ds : List PyData} {lo hi : Int} (h1 : lo <= (ds.length : Int)) (h2 : (ds.length : Int) <= hi) : A9 (.tuple ds) lo hi = true := by unfold A9; dsimp only; rw [decide_eq_true h1,decide_eq_true h2]; rfl
theorem Qq {P : PL} (h : P.ok) : Et P.d = true := by
 have b1 := h.b1
 have b4 := h.b4
 have e4 := h.e4
 have hb : Er (.tuple (P.bs.map bD)) = true := by
  unfold Er
  dsimp only
  rw [Dt (by rw [List.length_map]; omega) (by rw [List.length_map]; omega),Bool.true_and,List.all_eq_true]
  intro d hd
  obtain ⟨q,hq,rfl⟩ := List.mem_map.mp hd
  obtain ⟨q1,q2,q3,q4⟩ := h.b q hq
  unfold DQ
  dsimp only
  rw [BS q1 q2,BS q3 q4]; rfl
 have he : Es (.tuple (P.es.map eD)) = true := by
  unfold Es
  dsimp only
  rw [Dt (by rw [List.length_map]; omega) (by rw [List.length_map]; omega),Bool.true_and,List.all_eq_true]
  intro d hd
  obtain ⟨q,hq,rfl⟩ := List.mem_map.mp hd
  obtain ⟨q1,q2,q3,q4,q5,q6⟩ := h.e q hq
  unfold Dq
  dsimp only
  rw [BS q1 q2,BS q3 q4,BS q5 q6]; rfl
 have h0 := h.lo0
 have h1 := h.ls
 have h2 := h.sh
 have h3 := h.h4
 have hm : DR (.tuple [.int P.lo,.int P.hi,.int P.st]) = true := by
  unfold DR
  dsimp only
  rw [BS (by omega) h3,BS (by omega) h2,BS h0 h1]; rfl
 unfold Et PL.d
 dsimp only
 rw [hb,he,hm]; rfl
def Gi : Sp := fun vs H Q _ => match vs with | [v] => ∃ p P,PL.ok P /\ Aa p H P.d v /\ ∀ H',Ab H H' -> Q .non H' | _ => False
def Gj : Sp := fun vs H Q _ => match vs with | [v,.int nb,.int hs] => ∃ p x n h,FT.ok x n h /\ nb = (n : Int) /\ hs = (h : Int) /\ Aa p H x.d v /\ ∀ H',Ab H H' -> Q (.bl true) H' | _ => False
def Gk : Sp := fun vs H Q _ => match vs with | [v,u] => ∃ p P S,PL.ok P /\ SY.ok S P.bs.length /\ Aa p H P.d v /\ Aa p H S.d u /\ ∀ H',Ab H H' -> Q (.bl true) H' | _ => False
def E2 : Sp := fun vs H Q _ => match vs with | [v,u] => ∃ p P S,PL.ok P /\ SY.ok S P.bs.length /\ Aa p H P.d v /\ Aa p H S.d u /\ ∀ H',Ab H H' -> Q .non H' | _ => False
def Gm : Sp := fun vs H Q _ => match vs with | [.ref a,.int m] => ∃ ws : List Bool,H a = some (.lst (ws.map wV)) /\ ∀ H',Ab H H' -> Q (.int (BI ws m)) H' | _ => False
def Gn : Sp := fun vs H Q _ => match vs with | [v,.int b,.int h] => ∃ p fs,Aa p H (.tuple (fs.map FT.d)) v /\ fs.length <= 1000 /\ ∀ a H',Ab H H' -> H' a = some (.lst ((Bo fs b h).map wV)) -> Q (.ref a) H' | _ => False
def Go : Sp := fun vs H Q _ => match vs with | [v,u,.int h] => ∃ p bs fs,Aa p H (.tuple (bs.map bD)) v /\ Aa p H (.tuple (fs.map FT.d)) u /\ bs.length <= 1000 /\ fs.length <= 1000 /\ ret H Q p (AH (Cf bs fs h)) | _ => False
def E3 : Sp := fun vs H Q _ => match vs with | [v,u] => ∃ p P S,PL.ok P /\ SY.ok S P.bs.length /\ Aa p H P.d v /\ Aa p H S.d u /\ ret H Q p (JK P S) | _ => False
def Gp : Sp := fun vs H Q _ => match vs with | [v,.int h] => ∃ p q,Aa p H (eD q) v /\ 1 <= q.2.2 /\ Q (.int (drawn q h)) H | _ => False
def E4 : Sp := fun vs H Q _ => match vs with | [v,u] => ∃ p P S,PL.ok P /\ SY.ok S P.bs.length /\ Aa p H P.d v /\ Aa p H S.d u /\ ret H Q p (HE P S) | _ => False
theorem Aa.plant {P : PL} (r : Aa p H P.d v) : ∃ A B E M xb xe,v = .ref A /\ H A = some (.tup [.ref B,.ref E,.ref M]) /\ H B = some (.tup xb) /\ Ac p H (P.bs.map bD) xb /\ H E = some (.tup xe) /\ Ac p H (P.es.map eD) xe /\ H M = some (.tup [.int P.lo,.int P.hi,.int P.st]) := by
 unfold PL.d at r
 obtain ⟨A,xs,rfl,hA,rs⟩ := Aa.shape r
 obtain ⟨x,y,z,rfl,rx,ry,rz⟩ := Ac.three rs
 obtain ⟨B,xb,rfl,hB,rb⟩ := Aa.shape rx
 obtain ⟨E,xe,rfl,hE,re⟩ := Aa.shape ry
 obtain ⟨M,xm,rfl,hM,rm⟩ := Aa.shape rz
 obtain ⟨m1,m2,m3,rfl,r1,r2,r3⟩ := Ac.three rm
 unfold Aa at r1 r2 r3
 subst r1 r2 r3
 exact ⟨A,B,E,M,xb,xe,rfl,hA,hB,rb,hE,re,hM⟩
theorem Aa.story {S : SY} (r : Aa p H S.d v) : ∃ A B E xf,v = .ref A /\ H A = some (.tup [.ref B,.ref E]) /\ H B = some (.tup (S.ex.map V.int)) /\ H E = some (.tup xf) /\ Ac p H (S.fs.map FT.d) xf := by
 unfold SY.d at r
 obtain ⟨A,xs,rfl,hA,rs⟩ := Aa.shape r
 obtain ⟨x,y,rfl,rx,ry⟩ := Ac.two rs
 obtain ⟨B,xb,rfl,hB,rb⟩ := Aa.shape rx
 obtain ⟨E,xe,rfl,hE,re⟩ := Aa.shape ry
 rw [Ac.ints rb] at hB
 exact ⟨A,B,E,xe,rfl,hA,hB,hE,re⟩
section
variable {P : Program} {w : World} {K : PySem.W.Frag} {mg : Str -> Option Value} {base : Heap}
theorem Qr : Aw ["plant"] ["plant"] (Ap s_need_plant) := Ax
theorem Qs (F : Df K mg "need_plant" s_need_plant ["plant"]) (T : Tx mg) (D_is_plant : Fn P w K mg base 5 "is_plant" ["thing"] Gf) : Fn P w K mg base 6 "need_plant" ["plant"] Gi := by
 refine F.fn Qr (fun vs H Q E h => ?_) (fun f cdv A outer s H vs Q E hr h => ?_)
 ·unfold Gi at h; split at h; rfl; exact h.elim
 refine ⟨_,(Al (A1 (BT (BG (Ag D_is_plant (hr.mono (by decide)) rfl (Aq (cx 0 (by rfl)) (by rfl)) (by decide) (by rfl) (by rfl)) (by intro _; rfl))) (Al Fm) AY)),?_⟩
 unfold Gi at h
 split at h
 ·rename_i v
  obtain ⟨p,P,ok,r,q⟩ := h
  refine ⟨p,_,r,fun b H' hb s => ⟨fun c => ?_,fun c => q H' s⟩⟩
  rw [hb,Qq ok] at c
  cases c
 ·exact h.elim
theorem sc_is_fault : Aw ["thing","boilers","hours","boiler","word","first","last"] ["thing","boilers","hours"] (Ap s_is_fault) := Ax
theorem Qt (F : Df K mg "is_fault" s_is_fault ["thing","boilers","hours"]) (T : Tx mg) (D_is_tuple_of : BR P w K mg base) (D_is_whole_from : C7 P w K mg base) : Fn P w K mg base 3 "is_fault" ["thing","boilers","hours"] Gj := by
 refine F.fn sc_is_fault (fun vs H Q E h => ?_) (fun f cdv A outer s H vs Q E hr h => ?_)
 ·unfold Gj at h; split at h; rfl; exact h.elim
 refine ⟨_,(Aj (A1 (BT (BG (Ag D_is_tuple_of (hr.mono (by decide)) rfl (AL (cx 0 (by rfl)) Af Af (by rfl)) (by decide) (by rfl) (by rfl)) (by intro _; rfl))) (Al (Ao BC)) AY) (Aj (A7 (cx 0 (by rfl)) (AD K (n := 4) (Ah (Ak 3 sc_is_fault.nd (by rfl)) (Ah (Ak 4 sc_is_fault.nd (by rfl)) (Ah (Ak 5 sc_is_fault.nd (by rfl)) (Ah (Ak 6 sc_is_fault.nd (by rfl)) AC (by rfl)) (by rfl)) (by rfl)) (by rfl)) (by rfl) (by rfl) (by rfl) (by rfl)) (by rfl) (by rfl) (by rfl)) (Al (Ao (AZ (Ag D_is_whole_from (hr.mono (by decide)) rfl (AL (cx 3 (by rfl)) Af (Av BF (cx 1 (by rfl)) Af) (by rfl)) (by decide) (by rfl) (by rfl)) (AZ (BM (DH K (by rfl)) (cx 4 (by rfl)) (Bs (As BD BD (by rfl))) (by with_unfolding_all rfl)) (AZ (Ag D_is_whole_from (hr.mono (by decide)) rfl (AL (cx 6 (by rfl)) Af (Av BF (cx 2 (by rfl)) Af) (by rfl)) (by decide) (by rfl) (by rfl)) (Bl (Ag D_is_whole_from (hr.mono (by decide)) rfl (AL (cx 5 (by rfl)) Af (cx 6 (by rfl)) (by rfl)) (by decide) (by rfl) (by rfl)))))))))),?_⟩
 unfold Gj at h
 split at h
 ·rename_i v nb hs
  obtain ⟨p,x,n,k,ok,rfl,rfl,r,q⟩ := h
  obtain ⟨o1,o2,o3,o4,o5⟩ := ok
  refine ⟨p,_,r,fun b hb => ⟨fun c => ?_,fun c => ?_⟩⟩
  ·rw [hb] at c; cases c
  ·obtain ⟨l,xs,rfl,hl,rs⟩ := Aa.shape r
   obtain ⟨y1,y2,y3,y4,rfl,r1,r2,r3,r4⟩ := Ac.four rs
   unfold Aa at r1 r2 r3 r4
   subst r1 r2 r3 r4
   refine ⟨l,_,rfl,Ad.of hl,rfl,_,_,rfl,_,_,rfl,_,_,rfl,_,_,rfl,rfl,p,.int x.b,Aa.int,fun b1 e1 => ⟨fun _ => ?_,fun c1 => ?_⟩⟩
   ·refine fun t ht => ⟨t,_,rfl,.inr (Ad.of Ai),rfl,rfl,⟨fun _ => ?_,fun c2 => ?_⟩⟩
    ·refine ⟨p,.int x.l,Aa.int,fun b2 e2 => ⟨fun _ => ⟨p,.int x.f,Aa.int,fun b3 e3 => ?_⟩,fun c2 => ?_⟩⟩
     ·rw [BS o3 o4] at e3
      subst e3
      exact q _ (Ab.new ht)
     ·rw [BS (by omega) (by omega)] at e2
      rw [e2] at c2; cases c2
    ·rw [if_neg (by decide)] at c2
     have := NH x.out
     unfold wV at this
     rw [this] at c2; cases c2
   ·rw [BS o1 (by omega)] at e1
    rw [e1] at c1; cases c1
 ·exact h.elim
theorem sc_is_story : Aw ["plant","thing","extra","faults"] ["plant","thing"] (Ap s_is_story) := Ax
theorem Qu (F : Df K mg "is_story" s_is_story ["plant","thing"]) (T : Tx mg) (D_is_fault : Fn P w K mg base 3 "is_fault" ["thing","boilers","hours"] Gj) (D_is_tuple_of : BR P w K mg base) (D_is_whole_from : C7 P w K mg base) (D_need_plant : Fn P w K mg base 6 "need_plant" ["plant"] Gi) : Fn P w K mg base 7 "is_story" ["plant","thing"] Gk := by
 obtain ⟨t_MOST_EXTRA,g_MOST_EXTRA⟩ := T.g_MOST_EXTRA
 obtain ⟨t_MOST_FAULTS,g_MOST_FAULTS⟩ := T.g_MOST_FAULTS
 obtain ⟨t_MOST_HOURS,g_MOST_HOURS⟩ := T.g_MOST_HOURS
 refine F.fn sc_is_story (fun vs H Q E h => ?_) (fun f cdv A outer s H vs Q E hr h => ?_)
 ·unfold Gk at h; split at h; rfl; exact h.elim
 refine ⟨_,(Aj (Cc (Ag D_need_plant (hr.mono (by decide)) rfl (Aq (cx 0 (by rfl)) (by rfl)) (by decide) (by rfl) (by rfl)) (by rfl)) (Aj (A1 (BT (BG (Ag D_is_tuple_of (hr.mono (by decide)) rfl (AL (cx 1 (by rfl)) Af Af (by rfl)) (by decide) (by rfl) (by rfl)) (by intro _; rfl))) (Al (Ao BC)) AY) (Aj (A7 (cx 1 (by rfl)) (AD K (n := 2) (Ah (Ak 2 sc_is_story.nd (by rfl)) (Ah (Ak 3 sc_is_story.nd (by rfl)) AC (by rfl)) (by rfl)) (by rfl) (by rfl) (by rfl) (by rfl)) (by rfl) (by rfl) (by rfl)) (Al (Ao (AZ (Ag D_is_tuple_of (hr.mono (by decide)) rfl (AL (cx 2 (by rfl)) Af (Cq (v := .int 8) rfl g_MOST_HOURS ⟨t_MOST_HOURS,rfl⟩ (by decide)) (by rfl)) (by decide) (by rfl) (by rfl)) (AZ (AB (CZ rfl) rfl T.b_all boot_all (Aq (A4 ["units"] [none] rfl (Bz K (cx 2 (by rfl)) (by rfl)) (AG.of rfl) (fun _ _ _ _ => (Ak 0 (Az (by rfl)) (by rfl))) (fun _ _ _ _ => A3) (fun _ _ _ _ => (Ag D_is_whole_from (hr.mono (by decide)) rfl (AL (cx 0 (by rfl)) Af (Cq (v := .int 20) rfl g_MOST_EXTRA ⟨t_MOST_EXTRA,rfl⟩ (by decide)) (by rfl)) (by decide) (by rfl) (by rfl))) (by intro _; rfl)) (by rfl)) (by decide) (by decide) (by rfl) (by rfl)) (AZ (Ag D_is_tuple_of (hr.mono (by decide)) rfl (AL (cx 3 (by rfl)) Af (Cq (v := .int 4) rfl g_MOST_FAULTS ⟨t_MOST_FAULTS,rfl⟩ (by decide)) (by rfl)) (by decide) (by rfl) (by rfl)) (Bl (AB (CZ rfl) rfl T.b_all boot_all (Aq (A4 ["part","extra","plant"] [none,some 2,some 0] rfl (Bz K (cx 3 (by rfl)) (by rfl)) (AG.of rfl) (fun _ _ _ _ => (Ak 0 (Az (by rfl)) (by rfl))) (fun _ _ _ _ => A3) (fun _ _ _ _ => (Ag D_is_fault (hr.mono (by decide)) rfl (AL (cx 0 (by rfl)) (AB (Bb K (by rfl)) rfl T.b_len PySem.boot_len (Aq (AF (AV K (by rfl)) (cx 2 (by rfl)) Af (fun _ _ => rfl)) (by rfl)) (by decide) (by decide) (by rfl) (by rfl)) (AB (Bb K (by rfl)) rfl T.b_len PySem.boot_len (Aq (cx 1 (by rfl)) (by rfl)) (by decide) (by decide) (by rfl) (by rfl)) (by rfl)) (by decide) (by rfl) (by rfl))) (by intro _; rfl)) (by rfl)) (by decide) (by decide) (by rfl) (by rfl))))))))))),?_⟩
 unfold Gk at h
 split at h
 ·rename_i v u
  obtain ⟨p,P,S,ok,so,r,ru,q⟩ := h
  refine ⟨p,P,ok,r,fun H1 s1 => ⟨p,S.d,Aa.ev (Ev.same s1) _ _ ru,fun b hb => ⟨fun c => ?_,fun c => ?_⟩⟩⟩
  ·rw [hb] at c; cases c
  ·obtain ⟨A,B,E,xf,rfl,hA,hB,hE,rf⟩ := Aa.story (Aa.ev (Ev.same s1) _ _ ru)
   obtain ⟨PA,PB,PE,PM,xb,xe,rfl,pA,pB,rb,pE,re,pM⟩ := Aa.plant (Aa.ev (Ev.same s1) _ _ r)
   have x1 := so.x1
   have x8 := so.x8
   have f4 := so.f4
   have lf := rf.len
   rw [List.length_map] at lf
   have lb := rb.len
   rw [List.length_map] at lb
   refine ⟨A,_,rfl,Ad.of hA,rfl,_,_,rfl,_,_,rfl,rfl,p,_,Aa.row hB,fun b1 e1 => ⟨fun _ => ?_,fun c1 => ?_⟩⟩
   ·refine ⟨B,rfl,⟨_,Ad.of hB⟩,BO (xs := S.ex.map V.int) (fun i ys H' => Ab H1 H' /\ ys = List.replicate i (V.bl true)) (by rw [List.length_map]; omega) ⟨Ab.refl _,rfl⟩ (fun i ys H' h => by rw [h.2,List.length_replicate]; omega) (fun i ys H' _ h => Ad.of (h.1 _ _ hB)) (fun i x ys H' hx h => ?_) fun ys H' h => ?_⟩
    ·rw [List.getElem?_map] at hx
     cases z : S.ex[i]? with
     | none => rw [z] at hx; cases hx
     | some n =>
      rw [z] at hx
      cases hx
      obtain ⟨n0,n20⟩ := so.x n (List.mem_of_getElem? z)
      refine ⟨trivial,fun _ => ⟨p,.int n,Aa.int,fun b e => ⟨h.1,?_⟩⟩,fun c => by cases c⟩
      rw [BS n0 n20] at e
      rw [h.2,e,List.replicate_succ']
    ·intro m hm
     refine ⟨m,List.replicate S.ex.length true,rfl,by rw [Ai,h.2,List.length_map,List.map_replicate],⟨fun _ => ?_,fun c => ?_⟩⟩
     ·have s2 : Ab H1 (upd H' m (.lst ys)) := h.1.trans (Ab.new hm)
      refine ⟨p,_,Aa.tup (s2 _ _ hE) (Ac.ev (Ev.same s2) _ _ rf),fun b2 e2 => ⟨fun _ => ?_,fun c2 => ?_⟩⟩
      ·refine ⟨E,rfl,⟨_,Ad.of (s2 _ _ hE)⟩,BO (xs := xf) (fun i zs H2 => Ab H1 H2 /\ zs = List.replicate i (V.bl true)) (by omega) ⟨s2,rfl⟩ (fun i ys H' h => by rw [h.2,List.length_replicate]; omega) (fun i ys H' _ h => Ad.of (h.1 _ _ hE)) (fun i x zs H2 hx h2 => ?_) fun zs H2 h2 => ?_⟩
       ·obtain ⟨f,hf,rd⟩ := Ac.mapGot rf hx
        refine ⟨⟨rfl,rfl,trivial⟩,fun _ => ?_,fun c => by cases c⟩
        refine ⟨PA,_,0,.ref PB,rfl,rfl,Ad.of (h2.1 _ _ pA),rfl,PB,xb,rfl,.inr (Ad.of (h2.1 _ _ pB)),B,_,rfl,.inr (Ad.of (h2.1 _ _ hB)),?_⟩
        refine ⟨p,f,P.bs.length,S.ex.length,so.f f (List.mem_of_getElem? hf),by rw [lb],by rw [List.length_map],Aa.ev (Ev.same h2.1) _ _ rd,fun H3 s3 => ⟨h2.1.trans s3,?_⟩⟩
        rw [h2.2,List.replicate_succ']
       ·intro m2 hm2
        refine ⟨m2,List.replicate xf.length true,rfl,by rw [Ai,h2.2,List.map_replicate],?_⟩
        have ea : (List.replicate xf.length true).all id = true := by simp
        rw [ea]
        exact q _ (s1.trans (h2.1.trans (Ab.new hm2)))
      ·rw [Dt (by rw [List.length_map]; omega) (by rw [List.length_map]; omega)] at e2
       rw [e2] at c2; cases c2
     ·have ea : (List.replicate S.ex.length true).all id = true := by simp
      rw [ea] at c; cases c
   ·rw [Dt (by rw [List.length_map]; omega) (by rw [List.length_map]; omega)] at e1
    rw [e1] at c1; cases c1
 ·exact h.elim
theorem Qv : Aw ["plant","story"] ["plant","story"] (Ap s_need_story) := Ax
theorem Qw (F : Df K mg "need_story" s_need_story ["plant","story"]) (T : Tx mg) (D_is_story : Fn P w K mg base 7 "is_story" ["plant","thing"] Gk) : Fn P w K mg base 8 "need_story" ["plant","story"] E2 := by
 refine F.fn Qv (fun vs H Q E h => ?_) (fun f cdv A outer s H vs Q E hr h => ?_)
 ·unfold E2 at h; split at h; rfl; exact h.elim
 refine ⟨_,(Al (A1 (BT (BG (Ag D_is_story (hr.mono (by decide)) rfl (As (cx 0 (by rfl)) (cx 1 (by rfl)) (by rfl)) (by decide) (by rfl) (by rfl)) (by intro _; rfl))) (Al Fm) AY)),?_⟩
 unfold E2 at h
 split at h
 ·rename_i v u
  obtain ⟨p,P,S,ok,so,r,ru,q⟩ := h
  exact ⟨p,P,S,ok,so,r,ru,fun H' s => ⟨fun c => (by cases c),fun c => q H' s⟩⟩
 ·exact h.elim
theorem Qx : Aw ["words","make"] ["words","make"] (Ap s_cap_under) := Ax
theorem Qy (F : Df K mg "cap_under" s_cap_under ["words","make"]) (T : Tx mg)  : Fn P w K mg base 1 "cap_under" ["words","make"] Gm := by
 refine F.fn Qx (fun vs H Q E h => ?_) (fun f cdv A outer s H vs Q E hr h => ?_)
 ·unfold Gm at h; split at h; rfl; exact h.elim
 refine ⟨_,(Aj (A1 (AW (DH K (by rfl)) BD (cx 0 (by rfl)) (by with_unfolding_all rfl)) (Al (Ao Af)) AY) (Aj (A1 (AW (DH K (by rfl)) BD (cx 0 (by rfl)) (by with_unfolding_all rfl)) (Al (Ao (Av FN (cx 1 (by rfl)) Af))) AY) (Al (Ao (cx 1 (by rfl)))))),?_⟩
 unfold Gm at h
 split at h
 ·rename_i a m
  obtain ⟨ws,ha,q⟩ := h
  refine ⟨a,_,rfl,.inl (Am.of ha),rfl,FU,⟨fun c => ?_,fun c => ?_⟩⟩
  ·rw [if_neg (by decide),FS] at c
   have e : BI ws m = 0 := by unfold BI; rw [if_pos c]
   rw [e] at q
   exact q _ (Ab.refl _)
  ·rw [if_neg (by decide),FS] at c
   refine ⟨a,_,rfl,.inl (Am.of ha),rfl,FU,⟨fun c2 => ?_,fun c2 => ?_⟩⟩
   ·rw [if_neg (by decide),HH] at c2
    have e : BI ws m = m / 2 := by unfold BI; rw [if_neg (by rw [c]; decide),if_pos c2]
    rw [e] at q
    exact ⟨⟨by decide,by decide⟩,q _ (Ab.refl _)⟩
   ·rw [if_neg (by decide),HH] at c2
    have e : BI ws m = m := by unfold BI; rw [if_neg (by rw [c]; decide),if_neg (by rw [c2]; decide)]
    rw [e] at q
    exact q _ (Ab.refl _)
 ·exact h.elim
theorem Qz : Aw ["faults","boiler","hour"] ["faults","boiler","hour"] (Ap s_words_for) := Ax
theorem QA (F : Df K mg "words_for" s_words_for ["faults","boiler","hour"]) (T : Tx mg)  : Fn P w K mg base 1 "words_for" ["faults","boiler","hour"] Gn := by
 refine F.fn Qz (fun vs H Q E h => ?_) (fun f cdv A outer s H vs Q E hr h => ?_)
 ·unfold Gn at h; split at h; rfl; exact h.elim
 refine ⟨_,(Al (Ao (A4 ["at","word","first","last","boiler","hour"] [none,none,none,none,some 1,some 2] rfl (Bz K (cx 0 (by rfl)) (by rfl)) (AG.of rfl) (fun _ _ _ _ => (AD K (n := 4) (Ah (Ak 0 (Az (by rfl)) (by rfl)) (Ah (Ak 1 (Az (by rfl)) (by rfl)) (Ah (Ak 2 (Az (by rfl)) (by rfl)) (Ah (Ak 3 (Az (by rfl)) (by rfl)) AC (by rfl)) (by rfl)) (by rfl)) (by rfl)) (by rfl) (by rfl) (by rfl) (by rfl))) (fun _ _ _ _ => (CG (PW.pt (FO (AW Ct (cx 0 (by rfl)) (cx 4 (by rfl)) (AQ _)) (G4 (JB CH CH (cx 2 (by rfl)) (cx 5 (by rfl)) (cx 3 (by rfl)) (by with_unfolding_all rfl))))))) (fun _ _ _ _ => (cx 1 (by rfl))) (by intro _; rfl)))),?_⟩
 unfold Gn at h
 split at h
 ·rename_i v b hr'
  obtain ⟨p,fs,r,hl,q⟩ := h
  obtain ⟨A,xs,rfl,hA,rs⟩ := Aa.shape r
  have ln := rs.len
  rw [List.length_map] at ln
  refine ⟨A,rfl,⟨xs,Ad.of hA⟩,BO (xs := xs) (fun i ys H' => Ab H H' /\ ys = (Bo (fs.take i) b hr').map wV) (by omega) ⟨Ab.refl _,rfl⟩ (fun i ys H' h => ?_) (fun i ys H' _ h => Ad.of (h.1 _ _ hA)) (fun i x ys H' hx h => ?_) fun ys H' h => ?_⟩
  ·rw [h.2,List.length_map]
   unfold Bo
   rw [List.length_map]
   exact Nat.le_trans (List.length_filter_le _ _) (by rw [List.length_take]; omega)
  ·obtain ⟨f,hf,rd⟩ := Ac.mapGot rs hx
   obtain ⟨l,zs,rfl,hl',rz⟩ := Aa.shape (Aa.ev (Ev.same h.1) _ _ rd)
   obtain ⟨y1,y2,y3,y4,rfl,r1,r2,r3,r4⟩ := Ac.four rz
   unfold Aa at r1 r2 r3 r4
   subst r1 r2 r3 r4
   have nx := JL (b := b) (h := hr') hf
   have no : BZ b hr' f = false -> Ab H H' /\ ys = (Bo (fs.take (i + 1)) b hr').map wV := fun e => ⟨h.1,by rw [nx,e,if_neg (by decide)]; exact h.2⟩
   refine ⟨l,_,rfl,Ad.of hl',rfl,_,_,rfl,_,_,rfl,_,_,rfl,_,_,rfl,rfl,⟨rfl,rfl,trivial⟩,rfl,⟨fun c1 => ⟨fun c2 => ⟨fun c3 => ?_,fun c3 => no ?_⟩,fun c2 => ⟨fun z => (by cases z),fun _ => no ?_⟩⟩,fun c1 => ⟨fun z => (by cases z),fun _ => no ?_⟩⟩⟩
   ·have e : BZ b hr' f = true := by
     rw [Dd] at c1
     unfold BZ; rw [c1,c2,c3]; rfl
    refine ⟨h.1,?_⟩
    rw [nx,if_pos e,List.map_append,h.2]; rfl
   ·unfold BZ; rw [c3,Bool.and_false]
   ·unfold BZ; rw [c2,Bool.and_false,Bool.false_and]
   ·rw [Dd] at c1
    unfold BZ; rw [c1,Bool.false_and,Bool.false_and]
  ·intro m hm
   refine q m _ (h.1.trans (Ab.new hm)) ?_
   rw [Ai,h.2,List.take_of_length_le (by omega)]
 ·exact h.elim
theorem QB : Aw ["boilers","faults","hour"] ["boilers","faults","hour"] (Ap s_caps_in) := Ax
theorem QC (F : Df K mg "caps_in" s_caps_in ["boilers","faults","hour"]) (T : Tx mg) (D_cap_under : Fn P w K mg base 1 "cap_under" ["words","make"] Gm) (D_words_for : Fn P w K mg base 1 "words_for" ["faults","boiler","hour"] Gn) : Fn P w K mg base 2 "caps_in" ["boilers","faults","hour"] Go := by
 refine F.fn QB (fun vs H Q E h => ?_) (fun f cdv A outer s H vs Q E hr h => ?_)
 ·unfold Go at h; split at h; rfl; exact h.elim
 refine ⟨_,(Al (Ao (Bi (Bu K (by rfl)) rfl T.b_tuple Bn (Aq (A4 ["at","make","coal","faults","hour"] [none,none,none,some 1,some 2] rfl (Eb P w K rfl T.b_enumerate (Aq (cx 0 (by rfl)) (by rfl)) (by rfl) (by rfl) (by rfl) (by rfl)) (AG.of rfl) (fun _ _ _ _ => (AD K (n := 2) (Ah (Ak 0 (Az (by rfl)) (by rfl)) (Ah (AD K (n := 2) (Ah (Ak 1 (Az (by rfl)) (by rfl)) (Ah (Ak 2 (Az (by rfl)) (by rfl)) AC (by rfl)) (by rfl)) (by rfl) (by rfl) (by rfl) (by rfl)) AC (by rfl)) (by rfl)) (by rfl) (by rfl) (by rfl) (by rfl))) (fun _ _ _ _ => A3) (fun _ _ _ _ => (Ag D_cap_under (hr.mono (by decide)) rfl (As (Ag D_words_for (hr.mono (by decide)) rfl (AL (cx 3 (by rfl)) (cx 0 (by rfl)) (cx 4 (by rfl)) (by rfl)) (by decide) (by rfl) (by rfl)) (cx 1 (by rfl)) (by rfl)) (by decide) (by rfl) (by rfl))) (by intro _; rfl)) (by rfl)) (by decide) (by decide) (by rfl) (by rfl)))),?_⟩
 unfold Go at h
 split at h
 ·rename_i v u hour
  obtain ⟨p,bs,fs,r,ru,lb,lf,q⟩ := h
  obtain ⟨A,xs,rfl,hA,rs⟩ := Aa.shape r
  have ln := rs.len
  rw [List.length_map] at ln
  refine ⟨A,rfl,⟨xs,Ad.of hA⟩,walk_enum (xs := xs) (fun i ys H' => Ab H H' /\ ys = ((Cf bs fs hour).take i).map V.int) (by omega) ⟨Ab.refl _,rfl⟩ (fun i ys H' h => by rw [h.2,List.length_map,List.length_take]; omega) (fun i ys H' h => Ad.of (h.1 _ _ hA)) (fun i x ys H' T hx h hT => ?_) fun ys H' h => ?_⟩
  ·obtain ⟨f,hf,rd⟩ := Ac.mapGot rs hx
   have s2 : Ab H (upd H' T (.tup [.int i,x])) := h.1.trans (Ab.new hT)
   obtain ⟨l,zs,rfl,hl',rz⟩ := Aa.shape (Aa.ev (Ev.same s2) _ _ rd)
   obtain ⟨y1,y2,rfl,r1,r2⟩ := Ac.two rz
   unfold Aa at r1 r2
   subst r1 r2
   refine ⟨T,_,rfl,Ad.of Ai,rfl,_,_,rfl,_,_,rfl,l,_,rfl,Ad.of hl',rfl,_,_,rfl,_,_,rfl,rfl,rfl,⟨rfl,rfl,trivial⟩,fun _ => ?_,fun z => by cases z⟩
   refine ⟨p,fs,Aa.ev (Ev.same s2) _ _ ru,lf,fun a H3 s3 ha => ⟨_,ha,fun H4 s4 => ⟨s2.trans (s3.trans s4),?_⟩⟩⟩
   rw [A2 (HF hf),List.map_append,h.2]; rfl
  ·intro m hm
   refine ⟨m,_,rfl,.inl ⟨Am.of Ai,fun t ht => ?_⟩⟩
   refine q _ _ (h.1.trans ((Ab.new hm).trans (Ab.new ht))) (Aa.row ?_)
   rw [Ai,h.2,List.take_of_length_le (by rw [FR]; omega)]
 ·exact h.elim
theorem sc_caps_of : Aw ["plant","story","extra","faults"] ["plant","story"] (Ap s_caps_of) := Ax
theorem QD (F : Df K mg "caps_of" s_caps_of ["plant","story"]) (T : Tx mg) (D_caps_in : Fn P w K mg base 2 "caps_in" ["boilers","faults","hour"] Go) (D_need_story : Fn P w K mg base 8 "need_story" ["plant","story"] E2) : Fn P w K mg base 9 "caps_of" ["plant","story"] E3 := by
 refine F.fn sc_caps_of (fun vs H Q E h => ?_) (fun f cdv A outer s H vs Q E hr h => ?_)
 ·unfold E3 at h; split at h; rfl; exact h.elim
 refine ⟨_,(Aj (Cc (Ag D_need_story (hr.mono (by decide)) rfl (As (cx 0 (by rfl)) (cx 1 (by rfl)) (by rfl)) (by decide) (by rfl) (by rfl)) (by rfl)) (Aj (A7 (cx 1 (by rfl)) (AD K (n := 2) (Ah (Ak 2 sc_caps_of.nd (by rfl)) (Ah (Ak 3 sc_caps_of.nd (by rfl)) AC (by rfl)) (by rfl)) (by rfl) (by rfl) (by rfl) (by rfl)) (by rfl) (by rfl) (by rfl)) (Al (Ao (Bi (Bu K (by rfl)) rfl T.b_tuple Bn (Aq (A4 ["hour","faults","plant"] [none,some 3,some 0] rfl (BU rfl T.b_range (Aq (AB (Bb K (by rfl)) rfl T.b_len PySem.boot_len (Aq (cx 2 (by rfl)) (by rfl)) (by decide) (by decide) (by rfl) (by rfl)) (by rfl)) (by rfl)) (AG.of rfl) (fun _ _ _ _ => (Ak 0 (Az (by rfl)) (by rfl))) (fun _ _ _ _ => A3) (fun _ _ _ _ => (Ag D_caps_in (hr.mono (by decide)) rfl (AL (AF (AV K (by rfl)) (cx 2 (by rfl)) Af (fun _ _ => rfl)) (cx 1 (by rfl)) (cx 0 (by rfl)) (by rfl)) (by decide) (by rfl) (by rfl))) (by intro _; rfl)) (by rfl)) (by decide) (by decide) (by rfl) (by rfl)))))),?_⟩
 unfold E3 at h
 split at h
 ·rename_i v u
  obtain ⟨p,P,S,ok,so,r,ru,q⟩ := h
  refine ⟨p,P,S,ok,so,r,ru,fun H1 s1 => ?_⟩
  obtain ⟨A,B,E,xf,rfl,hA,hB,hE,rf⟩ := Aa.story (Aa.ev (Ev.same s1) _ _ ru)
  obtain ⟨PA,PB,PE,PM,xb,xe,rfl,pA,pB,rb,pE,re,pM⟩ := Aa.plant (Aa.ev (Ev.same s1) _ _ r)
  have x8 := so.x8
  have f4 := so.f4
  have b4 := ok.b4
  refine ⟨A,_,rfl,Ad.of hA,rfl,_,_,rfl,_,_,rfl,rfl,B,_,rfl,.inr (Ad.of hB),_,rfl,by omega,by rw [List.length_map]; omega,DZ (n := (S.ex.map V.int).length) (fun i ys H' => Ab H1 H' /\ Ac p H' (((caps P S).take i).map AH) ys) (by rw [List.length_map]; omega) ⟨Ab.refl _,.nil⟩ (fun i ys H' h => by rw [<- h.2.len,List.length_map,List.length_take]; omega) (fun i ys H' hi h => ?_) fun ys H' h => ?_⟩
  ·rw [List.length_map] at hi
   refine ⟨⟨rfl,rfl,trivial⟩,fun _ => ?_,fun z => by cases z⟩
   refine ⟨PA,_,0,.ref PB,rfl,rfl,Ad.of (h.1 _ _ pA),rfl,p,P.bs,S.fs,Aa.tup (h.1 _ _ pB) (Ac.ev (Ev.same h.1) _ _ rb),Aa.tup (h.1 _ _ hE) (Ac.ev (Ev.same h.1) _ _ rf),by omega,by omega,fun v2 H2 s2 r2 => ⟨h.1.trans s2,?_⟩⟩
   rw [Int.zero_add] at r2
   rw [A2 (Ed hi),List.map_append]
   exact Ac.snoc (Ac.ev (Ev.same s2) _ _ h.2) r2
  ·intro m hm
   refine ⟨m,_,rfl,.inl ⟨Am.of Ai,fun t ht => ?_⟩⟩
   have s3 := (Ab.new (o := .lst ys) hm).trans (Ab.new (o := .tup ys) ht)
   refine q _ _ (s1.trans (h.1.trans s3)) (Aa.tup Ai ?_)
   have r3 := Ac.ev (Ev.same s3) _ _ h.2
   rw [List.take_of_length_le (by rw [DI,List.length_map]; exact Nat.le_refl _)] at r3
   exact r3
 ·exact h.elim
theorem sc_drawn_by : Aw ["engine","hour","draw","first","every"] ["engine","hour"] (Ap s_drawn_by) := Ax
theorem QE (F : Df K mg "drawn_by" s_drawn_by ["engine","hour"]) (T : Tx mg)  : Fn P w K mg base 1 "drawn_by" ["engine","hour"] Gp := by
 refine F.fn sc_drawn_by (fun vs H Q E h => ?_) (fun f cdv A outer s H vs Q E hr h => ?_)
 ·unfold Gp at h; split at h; rfl; exact h.elim
 refine ⟨_,(Aj (A7 (cx 0 (by rfl)) (AD K (n := 3) (Ah (Ak 2 sc_drawn_by.nd (by rfl)) (Ah (Ak 3 sc_drawn_by.nd (by rfl)) (Ah (Ak 4 sc_drawn_by.nd (by rfl)) AC (by rfl)) (by rfl)) (by rfl)) (by rfl) (by rfl) (by rfl) (by rfl)) (by rfl) (by rfl) (by rfl)) (Aj (A1 (PW.pt (FP (AW DE (cx 1 (by rfl)) (cx 3 (by rfl)) (AQ _)) (Fl (AW Ft (Av D8 (Av BF (cx 1 (by rfl)) (cx 3 (by rfl))) (cx 4 (by rfl))) Af (AQ _))))) (Al (Ao Af)) AY) (Al (Ao (cx 2 (by rfl)))))),?_⟩
 unfold Gp at h
 split at h
 ·rename_i v hour
  obtain ⟨p,e,r,e1,q⟩ := h
  obtain ⟨A,xs,rfl,hA,rs⟩ := Aa.shape r
  obtain ⟨y1,y2,y3,rfl,r1,r2,r3⟩ := Ac.three rs
  unfold Aa at r1 r2 r3
  subst r1 r2 r3
  refine ⟨A,_,rfl,Ad.of hA,rfl,_,_,rfl,_,_,rfl,_,_,rfl,rfl,⟨fun c => ⟨fun _ => ?_,fun z => by cases z⟩,fun c => ⟨by omega,rfl,⟨fun c2 => ?_,fun c2 => ?_⟩⟩⟩⟩
  ·have z : drawn e hour = 0 := by unfold drawn; rw [if_pos (.inl (of_decide_eq_true c))]
   rw [z] at q; exact q
  ·have z : drawn e hour = 0 := by
    unfold drawn; exact if_pos (.inr fun z => NI c2 (congrArg V.int z))
   rw [z] at q; exact q
  ·have z : drawn e hour = e.1 := by
    unfold drawn; rw [if_neg ?_]
    rintro (z | z)
    ·exact absurd (decide_eq_true z) (by rw [c]; decide)
    ·apply z
     have : V.int ((hour - e.2.1) % e.2.2) = V.int 0 := by simpa using c2
     injection this
   rw [z] at q; exact q
 ·exact h.elim
theorem sc_draws_of : Aw ["plant","story","engines"] ["plant","story"] (Ap s_draws_of) := Ax
theorem QF (F : Df K mg "draws_of" s_draws_of ["plant","story"]) (T : Tx mg) (D_drawn_by : Fn P w K mg base 1 "drawn_by" ["engine","hour"] Gp) (D_need_story : Fn P w K mg base 8 "need_story" ["plant","story"] E2) : Fn P w K mg base 9 "draws_of" ["plant","story"] E4 := by
 refine F.fn sc_draws_of (fun vs H Q E h => ?_) (fun f cdv A outer s H vs Q E hr h => ?_)
 ·unfold E4 at h; split at h; rfl; exact h.elim
 refine ⟨_,(Aj (Cc (Ag D_need_story (hr.mono (by decide)) rfl (As (cx 0 (by rfl)) (cx 1 (by rfl)) (by rfl)) (by decide) (by rfl) (by rfl)) (by rfl)) (Aj (AE (i := 2) sc_draws_of.nd rfl (AA (by rfl)) (AF (AV K (by rfl)) (cx 0 (by rfl)) Af (fun _ _ => rfl)) (by rfl) (AR (by rfl))) (Al (Ao (Bi (Bu K (by rfl)) rfl T.b_tuple Bn (Aq (A4 ["hour","units","engines"] [none,none,some 2] rfl (Eb P w K rfl T.b_enumerate (Aq (AF (AV K (by rfl)) (cx 1 (by rfl)) Af (fun _ _ => rfl)) (by rfl)) (by rfl) (by rfl) (by rfl) (by rfl)) (AG.of rfl) (fun _ _ _ _ => (AD K (n := 2) (Ah (Ak 0 (Az (by rfl)) (by rfl)) (Ah (Ak 1 (Az (by rfl)) (by rfl)) AC (by rfl)) (by rfl)) (by rfl) (by rfl) (by rfl) (by rfl))) (fun _ _ _ _ => A3) (fun _ _ _ _ => (Av A8 (cx 1 (by rfl)) (AB (FQ rfl) rfl T.b_sum boot_sum (Aq (A4 ["engine","hour"] [none,some 0] rfl (Bz K (cx 2 (by rfl)) (by rfl)) (AG.of rfl) (fun _ _ _ _ => (Ak 0 (Az (by rfl)) (by rfl))) (fun _ _ _ _ => A3) (fun _ _ _ _ => (Ag D_drawn_by (hr.mono (by decide)) rfl (As (cx 0 (by rfl)) (cx 1 (by rfl)) (by rfl)) (by decide) (by rfl) (by rfl))) (by intro _; rfl)) (by rfl)) (by decide) (by decide) (by rfl) (by rfl)))) (by intro _; rfl)) (by rfl)) (by decide) (by decide) (by rfl) (by rfl)))))),?_⟩
 unfold E4 at h
 split at h
 ·rename_i v u
  obtain ⟨p,P,S,ok,so,r,ru,q⟩ := h
  refine ⟨p,P,S,ok,so,r,ru,fun H1 s1 => ?_⟩
  obtain ⟨A,B,E,xf,rfl,hA,hB,hE,rf⟩ := Aa.story (Aa.ev (Ev.same s1) _ _ ru)
  obtain ⟨PA,PB,PE,PM,xb,xe,rfl,pA,pB,rb,pE,re,pM⟩ := Aa.plant (Aa.ev (Ev.same s1) _ _ r)
  have x8 := so.x8
  have e4 := ok.e4
  have le := re.len
  rw [List.length_map] at le
  refine ⟨PA,_,1,.ref PE,rfl,rfl,Ad.of pA,rfl,A,_,0,.ref B,rfl,rfl,Ad.of hA,rfl,B,rfl,⟨_,Ad.of hB⟩,walk_enum (xs := S.ex.map V.int) (fun i ys H' => Ab H1 H' /\ ys = ((draws P S).take i).map V.int) (by rw [List.length_map]; omega) ⟨Ab.refl _,rfl⟩ (fun i ys H' h => by rw [h.2,List.length_map,List.length_take]; omega) (fun i ys H' h => Ad.of (h.1 _ _ hB)) (fun i x ys H' T hx h hT => ?_) fun ys H' h => ?_⟩
  ·rw [List.getElem?_map] at hx
   cases z : S.ex[i]? with
   | none => rw [z] at hx; cases hx
   | some n =>
    rw [z] at hx
    cases hx
    have s2 : Ab H1 (upd H' T (.tup [.int i,.int n])) := h.1.trans (Ab.new hT)
    refine ⟨T,_,rfl,Ad.of Ai,rfl,_,_,rfl,_,_,rfl,rfl,⟨rfl,trivial⟩,fun _ => ?_,fun z => by cases z⟩
    refine ⟨PE,rfl,⟨xe,Ad.of (s2 _ _ pE)⟩,BO (xs := xe) (fun j zs H2 => Ab H1 H2 /\ zs = ((P.es.take j).map fun e => drawn e i).map V.int) (by omega) ⟨s2,rfl⟩ (fun j zs H2 h => by rw [h.2,List.length_map,List.length_map,List.length_take]; omega) (fun j zs H2 _ h => Ad.of (h.1 _ _ pE)) (fun j x zs H2 hx h2 => ?_) fun zs H2 h2 => ?_⟩
    ·obtain ⟨f,hf,rd⟩ := Ac.mapGot re hx
     refine ⟨⟨rfl,trivial⟩,fun _ => ⟨p,f,Aa.ev (Ev.same h2.1) _ _ rd,(ok.e f (List.mem_of_getElem? hf)).2.2.2.2.1,h2.1,?_⟩,fun z => by cases z⟩
     rw [A2 hf,List.map_append,List.map_append,h2.2]; rfl
    ·intro m hm
     refine ⟨m,P.es.map fun e => drawn e i,rfl,?_,h2.1.trans (Ab.new hm),?_⟩
     ·rw [Ai,h2.2,List.take_of_length_le (by omega)]
     ·rw [A2 (HG z),List.map_append,h.2]; rfl
  ·intro m hm
   refine ⟨m,_,rfl,.inl ⟨Am.of Ai,fun t ht => ?_⟩⟩
   refine q _ _ (s1.trans (h.1.trans ((Ab.new hm).trans (Ab.new ht)))) (Aa.row ?_)
   rw [Ai,h.2,List.take_of_length_le (by rw [Cg,List.length_map]; omega)]
 ·exact h.elim
end
end MF
end
section
namespace MF
open PySem PySem.Spec PyProof.Rows L2
theorem KR : ∀ {bs : List PyData},(∀ d ∈ bs,GoodB d) -> ∃ l : List (Int × Int),bs = l.map bD /\ ∀ q ∈ l,1 <= q.1 /\ q.1 <= 9 /\ 1 <= q.2 /\ q.2 <= 9
 | [],_ => ⟨[],rfl,fun _ h => nomatch h⟩
 | d :: ds,h => by
  obtain ⟨l,e,g⟩ := KR fun x hx => h x (List.mem_cons_of_mem _ hx)
  obtain ⟨m,c,rfl,a1,a2,a3,a4⟩ := h d List.mem_cons_self
  refine ⟨(m,c) :: l,by rw [e]; rfl,fun q hq => ?_⟩
  rcases List.mem_cons.mp hq with rfl | hq
  ·exact ⟨a1,a2,a3,a4⟩
  ·exact g q hq
theorem KS : ∀ {es : List PyData},(∀ d ∈ es,GoodE d) -> ∃ l : List (Int × Int × Int),es = l.map eD /\ ∀ q ∈ l,1 <= q.1 /\ q.1 <= 9 /\ 0 <= q.2.1 /\ q.2.1 <= 7 /\ 1 <= q.2.2 /\ q.2.2 <= 8
 | [],_ => ⟨[],rfl,fun _ h => nomatch h⟩
 | d :: ds,h => by
  obtain ⟨l,e,g⟩ := KS fun x hx => h x (List.mem_cons_of_mem _ hx)
  obtain ⟨m,c,k,rfl,a1,a2,a3,a4,a5,a6⟩ := h d List.mem_cons_self
  refine ⟨(m,c,k) :: l,by rw [e]; rfl,fun q hq => ?_⟩
  rcases List.mem_cons.mp hq with rfl | hq
  ·exact ⟨a1,a2,a3,a4,a5,a6⟩
  ·exact g q hq
theorem GoodP.pl {bs es : List PyData} {lo hi st : Int} (g : GoodP bs es lo hi st) : ∃ P : PL,P.ok /\ KQ bs es lo hi st = P.d := by
 obtain ⟨lb,rfl,hb⟩ := KR g.b
 obtain ⟨le,rfl,he⟩ := KS g.e
 have b1 := g.b1
 have b4 := g.b4
 have e4 := g.e4
 rw [List.length_map] at b1 b4 e4
 exact ⟨⟨lb,le,lo,hi,st⟩,⟨hb,b1,b4,he,e4,g.lo0,g.ls,g.sh,g.h4⟩,rfl⟩
theorem KT (r : List Int) : Cj (AH r) = true := by
 unfold Cj
 exact EZ fun d hd => by
  obtain ⟨i,_,rfl⟩ := List.mem_map.mp hd
  rfl
theorem QG (k : Bool) : 0 < (1 : Int) + (if k = true then 1 else 0) /\ (1 : Int) + (if k = true then 1 else 0) < 1073741824 := by cases k <;> decide
def GoodF (n h : Nat) (d : PyData) : Prop := ∃ x : FT,d = x.d /\ x.ok n h
theorem GoodF.nm {n h : Nat} {d : PyData} (g : GoodF n h d) : Cj d = true := by obtain ⟨x,rfl,_⟩ := g; rfl
theorem KU {n h : Nat} : ∀ {es : List PyData},(∀ d ∈ es,GoodF n h d) -> ∃ l : List FT,es = l.map FT.d /\ ∀ q ∈ l,q.ok n h
 | [],_ => ⟨[],rfl,fun _ h => nomatch h⟩
 | d :: ds,hh => by
  obtain ⟨l,e,g⟩ := KU fun x hx => hh x (List.mem_cons_of_mem _ hx)
  obtain ⟨x,rfl,a1⟩ := hh d List.mem_cons_self
  refine ⟨x :: l,by rw [e]; rfl,fun q hq => ?_⟩
  rcases List.mem_cons.mp hq with rfl | hq
  ·exact a1
  ·exact g q hq
def E5 : Sp := fun vs H Q _ => match vs with | [.ref p,v,.int m] => Bc p H /\ 1 <= m /\ m <= 8 /\ ∃ P,PL.ok P /\ Aa p H P.d v /\ ∀ u H' S,SY.ok S P.bs.length -> Aa p H' S.d u -> Ev p H H' -> Bc p H' -> Q u H' | _ => False
def Gq : Sp := fun vs H Q _ => match vs with | [v,u] => ∃ p P S,PL.ok P /\ SY.ok S P.bs.length /\ Aa p H P.d v /\ Aa p H S.d u /\ ret H Q p (JK P S) | _ => False
def Gs : Sp := fun vs H Q _ => match vs with | [v,u] => ∃ p P S,PL.ok P /\ SY.ok S P.bs.length /\ Aa p H P.d v /\ Aa p H S.d u /\ ret H Q p (HE P S) | _ => False
section
variable {P : Program} {w : World} {K : PySem.W.Frag} {mg : Str -> Option Value} {base : Heap}
theorem sc__law_story : Aw ["_law_pen_here","_law_plant_here","_law_most","_law_hours","_law_total","_law_wide","_law_extra","_law_faults","_law_turn","_law_first","_law_last"] ["_law_pen_here","_law_plant_here","_law_most"] (Ap s__law_story) := Ax
theorem QH (F : Df K mg "_law_story" s__law_story ["_law_pen_here","_law_plant_here","_law_most"]) (T : Tx mg) (D__law_draw : Fn P w K mg base 1 "_law_draw" ["_law_pen_here","_law_many"] EY) : Fn P w K mg base 2 "_law_story" ["_law_pen_here","_law_plant_here","_law_most"] E5 := by
 refine F.fn sc__law_story (fun vs H Q E h => ?_) (fun f cdv A outer s H vs Q E hr h => ?_)
 ·unfold E5 at h; split at h; rfl; exact h.elim
 refine ⟨_,(Aj (LK (i := 3) (j := 4) rfl sc__law_story.nd rfl rfl (by decide) rfl rfl (As (Av A8 Af (Ag D__law_draw (hr.mono (by decide)) rfl (As (cx 0 (by rfl)) (cx 2 (by rfl)) (by rfl)) (by decide) (by rfl) (by rfl))) (AB (FQ rfl) rfl T.b_sum boot_sum (Aq (A4 ["_law_make","_law_coal"] [none,none] rfl (Bz K (AF (AV K (by rfl)) (cx 1 (by rfl)) Af (fun _ _ => rfl)) (by rfl)) (AG.of rfl) (fun _ _ _ _ => (AD K (n := 2) (Ah (Ak 0 (Az (by rfl)) (by rfl)) (Ah (Ak 1 (Az (by rfl)) (by rfl)) AC (by rfl)) (by rfl)) (by rfl) (by rfl) (by rfl) (by rfl))) (fun _ _ _ _ => A3) (fun _ _ _ _ => (cx 0 (by rfl))) (by intro _; rfl)) (by rfl)) (by decide) (by decide) (by rfl) (by rfl)) (by rfl)) (by rfl) (by rfl)) (Aj (AE (i := 5) sc__law_story.nd rfl (AA (by rfl)) (AF (BY K (by rfl)) (BH (C1 Af (Av A8 Af (Av FN (cx 4 (by rfl)) Af)) (Av A8 Af (cx 4 (by rfl))) Af (by rfl))) (Ag D__law_draw (hr.mono (by decide)) rfl (As (cx 0 (by rfl)) Af (by rfl)) (by decide) (by rfl) (by rfl)) (fun _ _ => rfl)) (by rfl) (AR (by rfl))) (Aj (AE (i := 6) sc__law_story.nd rfl (AA (by rfl)) (Bi (Bu K (by rfl)) rfl T.b_tuple Bn (Aq (A4 ["_law_hour","_law_pen_here","_law_wide"] [none,some 0,some 5] rfl (BU rfl T.b_range (Aq (cx 3 (by rfl)) (by rfl)) (by rfl)) (AG.of rfl) (fun _ _ _ _ => (Ak 0 (Az (by rfl)) (by rfl))) (fun _ _ _ _ => A3) (fun _ _ _ _ => (Ag D__law_draw (hr.mono (by decide)) rfl (As (cx 1 (by rfl)) (AB (Hc rfl) rfl T.b_min boot_min (As Af (cx 2 (by rfl)) (by rfl)) (by decide) (by decide) (by rfl) (by rfl)) (by rfl)) (by decide) (by rfl) (by rfl))) (by intro _; rfl)) (by rfl)) (by decide) (by decide) (by rfl) (by rfl)) (by rfl) (AR (by rfl))) (Aj (AE (i := 7) sc__law_story.nd rfl (AA (by rfl)) (BH BV) (by rfl) (AR (by rfl))) (Aj (BK PassesOwn.never rfl (BU rfl T.b_range (Aq (AF (BY K (by rfl)) (BH (C1 Af Af Af (Ag D__law_draw (hr.mono (by decide)) rfl (As (cx 0 (by rfl)) Af (by rfl)) (by decide) (by rfl) (by rfl)) (by rfl))) (Ag D__law_draw (hr.mono (by decide)) rfl (As (cx 0 (by rfl)) Af (by rfl)) (by decide) (by rfl) (by rfl)) (fun _ _ => rfl)) (by rfl)) (by rfl)) (Ak 8 sc__law_story.nd (by rfl)) (Aj (AE (i := 9) sc__law_story.nd rfl (AA (by rfl)) (Ag D__law_draw (hr.mono (by decide)) rfl (As (cx 0 (by rfl)) (cx 3 (by rfl)) (by rfl)) (by decide) (by rfl) (by rfl)) (by rfl) (AR (by rfl))) (Aj (AE (i := 10) sc__law_story.nd rfl (AA (by rfl)) (Av A8 (cx 9 (by rfl)) (Ag D__law_draw (hr.mono (by decide)) rfl (As (cx 0 (by rfl)) (Av BF (cx 3 (by rfl)) (cx 9 (by rfl))) (by rfl)) (by decide) (by rfl) (by rfl))) (by rfl) (AR (by rfl))) (Al (Cc (Dh PySem.F.plainAttrs_list PySem.F.slot_list_append PySem.F.type_list_append Di (cx 7 (by rfl)) (Aq (Bs (C1 (Ag D__law_draw (hr.mono (by decide)) rfl (As (cx 0 (by rfl)) (AB (Bb K (by rfl)) rfl T.b_len PySem.boot_len (Aq (AF (AV K (by rfl)) (cx 1 (by rfl)) Af (fun _ _ => rfl)) (by rfl)) (by decide) (by decide) (by rfl) (by rfl)) (by rfl)) (by decide) (by rfl) (by rfl)) (AF (BY K (by rfl)) (BH (As BD BD (by rfl))) (Ag D__law_draw (hr.mono (by decide)) rfl (As (cx 0 (by rfl)) Af (by rfl)) (by decide) (by rfl) (by rfl)) (fun _ _ => rfl)) (cx 9 (by rfl)) (cx 10 (by rfl)) (by rfl))) (by rfl)) (by rfl) (by rfl) (by rfl) (by rfl) (by rfl)) (by rfl))))) (by intro _; rfl)) (Al (Ao (Bs (As (cx 6 (by rfl)) (Bi (Bu K (by rfl)) rfl T.b_tuple Bn (Aq (cx 7 (by rfl)) (by rfl)) (by decide) (by decide) (by rfl) (by rfl)) (by rfl)))))))))),?_⟩
 unfold E5 at h
 split at h
 ·rename_i p v m
  obtain ⟨pn,m1,m8,P,ok,r,q⟩ := h
  have b1 := ok.b1
  have b4 := ok.b4
  refine ⟨pn,by omega,by omega,fun g1 H1 a1 c1 e1 pn1 => ?_⟩
  obtain ⟨PA,PB,PE,PM,xb,xe,rfl,pA,pB,rb,pE,re,pM⟩ := Aa.plant (Aa.ev e1 _ _ r)
  have lb := rb.len
  rw [List.length_map] at lb
  refine ⟨PA,_,0,.ref PB,rfl,rfl,Ad.of pA,rfl,PB,rfl,⟨xb,Ad.of pB⟩,BO (xs := xb) (fun i ys H' => Ab H1 H' /\ ys = ((P.bs.map (·.1)).take i).map V.int) (by omega) ⟨Ab.refl _,rfl⟩ (fun i ys H' h => by rw [h.2,List.length_map,List.length_take]; omega) (fun i ys H' _ h => Ad.of (h.1 _ _ pB)) (fun i x ys H' hx h => ?_) fun ys H2 h => ?_⟩
  ·obtain ⟨f,hf,rd⟩ := Ac.mapGot rb hx
   obtain ⟨l,zs,rfl,hl',rz⟩ := Aa.shape (Aa.ev (Ev.same h.1) _ _ rd)
   obtain ⟨y1,y2,rfl,r1,r2⟩ := Ac.two rz
   unfold Aa at r1 r2
   subst r1 r2
   refine ⟨l,_,rfl,Ad.of hl',rfl,_,_,rfl,_,_,rfl,rfl,trivial,fun _ => ⟨h.1,?_⟩,fun z => by cases z⟩
   have hf' : (P.bs.map (·.1))[i]? = some f.1 := by rw [List.getElem?_map,hf]; rfl
   rw [A2 hf',List.map_append,h.2]; rfl
  intro lm hlm
  have eT : 0 <= (P.bs.map (·.1)).sum /\ (P.bs.map (·.1)).sum <= 9 * (P.bs.map (·.1)).length := JM fun i hi => by
   obtain ⟨qq,hqq,rfl⟩ := List.mem_map.mp hi
   have := ok.b qq hqq
   omega
  rw [List.length_map] at eT
  have n1 := Ab.new (o := .lst ys) hlm
  refine ⟨lm,P.bs.map (·.1),rfl,?_,_,_,rfl,⟨by decide,by decide⟩,fun l1 hl1 => ?_⟩
  ·rw [Ai,h.2,List.take_of_length_le (by rw [List.length_map]; omega)]
  have e2 : Ev p H (upd H2 lm (.lst ys)) := e1.trans (Ev.same (h.1.trans n1))
  have pn2 : Bc p (upd H2 lm (.lst ys)) := pn1.same (h.1.trans n1)
  generalize upd H2 lm (.lst ys) = H3 at hl1 e2 pn2 ⊢
  generalize (P.bs.map (·.1)).sum = T at eT
  refine ⟨pn2.new hl1,by decide,by decide,fun g2 H4 a4 c4 e4 pn4 => ?_⟩
  obtain ⟨wd,hwd,hat⟩ := Ds (ns := [1,1 + T / 2,1 + T,21]) a4 (by simpa using c4)
  have hwd' : wd = 1 \/ wd = 1 + T / 2 \/ wd = 1 + T \/ wd = 21 := by simpa using hwd
  have w1 : 1 <= wd := by omega
  refine ⟨l1,_,g2,.int wd,rfl,rfl,Am.of (e4.lst Ai (pn2.ne hl1)),hat,?_⟩
  have eA : Ev p H H4 := e2.trans ((Ev.new hl1).trans e4)
  refine ⟨_,rfl,by omega,by omega,DZ (n := (1 + g1).toNat) (fun i ys H5 => Ev p H4 H5 /\ Bc p H5 /\ ∃ ns : List Int,ys = ns.map V.int /\ ns.length = i /\ ∀ u ∈ ns,0 <= u /\ u <= 20) (by omega) ⟨Ev.refl,pn4,[],rfl,rfl,(fun _ h => nomatch h)⟩ (fun i ys H5 h => ?_) (fun i ys H5 hi h => ?_) fun ys H5 h => ?_⟩
  ·obtain ⟨_,_,ns,rfl,hn,_⟩ := h
   rw [List.length_map]; omega
  ·obtain ⟨e5,pn5,ns,rfl,hn,hu⟩ := h
   refine ⟨⟨rfl,rfl,trivial⟩,fun _ => ⟨21,wd,rfl,pn5,by split <;> omega,by split <;> omega,fun g6 H6 a6 c6 e6 pn6 => ⟨e5.trans e6,pn6,ns ++ [g6],by rw [List.map_append]; rfl,by rw [List.length_append,hn]; rfl,fun u hu' => ?_⟩⟩,fun z => by cases z⟩
   rcases List.mem_append.mp hu' with h | h
   ·exact hu u h
   ·rw [List.mem_singleton.mp h]
    have : (if wd < 21 then wd else 21) <= 21 := by split <;> omega
    omega
  obtain ⟨e5,pn5,ns,rfl,hn,hu⟩ := h
  intro l2 hl2
  refine ⟨l2,_,rfl,.inl ⟨Am.of Ai,fun t1 ht1 b hb => ?_⟩⟩
  have n2 := Ab.new (o := .lst (ns.map V.int)) hl2
  have n3 := Ab.new (o := .tup (ns.map V.int)) ht1
  have kt := Ai (H := upd H5 l2 (.lst (ns.map V.int))) (a := t1) (o := .tup (ns.map V.int))
  have e6 : Ev p H (upd (upd H5 l2 (.lst (ns.map V.int))) t1 (.tup (ns.map V.int))) := (eA.trans e5).trans (Ev.same (n2.trans n3))
  have pn6 := pn5.same (n2.trans n3)
  generalize upd (upd H5 l2 (.lst (ns.map V.int))) t1 (.tup (ns.map V.int)) = H6 at hb kt e6 pn6 n3 ⊢
  have nb : b ≠ p := pn6.ne hb
  have hbH : H b = none := by
   cases z : H b with
   | none => rfl
   | some o => exact ((e6 b o z).elim (fun ⟨x,_⟩ => absurd x nb) fun x => by rw [x] at hb; cases hb)
  refine ⟨pn6.new hb,by decide,by decide,fun g7 H7 a7 c7 e7 pn7 l3 hl3 => ⟨pn7.new hl3,by decide,by decide,fun g8 H8 a8 c8 e8 pn8 => ?_⟩⟩
  obtain ⟨tn,htn,hat3⟩ := Ds (ns := [0,0,1,g7]) a8 (by simpa using c8)
  have htn' : tn = 0 \/ tn = 0 \/ tn = 1 \/ tn = g7 := by simpa using htn
  have e68 : Ev p (upd H6 b (.lst [])) H8 := e7.trans ((Ev.new hl3).trans e8)
  refine ⟨l3,_,g8,.int tn,rfl,rfl,Am.of (e8.lst Ai (pn7.ne hl3)),hat3,tn,rfl,by omega,by omega,Dx (n := tn.toNat) (fun i σ H9 => ∃ t f l,σ = [some (.ref p),some (.ref PA),some (.int m),some (.int (1 + g1)),some (.int T),some (.int wd),some (.ref t1),some (.ref b),t,f,l] /\ Ev p H6 (upd H9 b (.lst [])) /\ Filled (GoodF P.bs.length (1 + g1).toNat) p b H H9 i)
   ⟨_,_,_,rfl,?_,(e6.trans (Ev.new hb)).trans e68,pn8,[],[],e68.lst Ai nb,.nil,(fun _ h => nomatch h),rfl⟩ (fun i σ H9 hi hP => ?_) fun σ H9 hP => ?_⟩
  ·exact ((Ev.new hb).trans e68).own hb
  ·obtain ⟨t,f,l,rfl,ev6,ev,pn4',xs,ds,hx,rs,gd,hl⟩ := hP
   refine ⟨pn4',by omega,by omega,fun f1 K5 a5 c5 e5' pn5' => ⟨pn5',by omega,by omega,fun f2 K6 a6 c6 e6' pn6' => ?_⟩⟩
   have e46 : Ev p H9 K6 := e5'.trans e6'
   obtain ⟨PA',PB',PE',PM',xb',xe',ePA,pA',pB',rb',pE',re',pM'⟩ := Aa.plant (Aa.ev (ev.trans e46) _ _ r)
   cases ePA
   have lb' := rb'.len
   rw [List.length_map] at lb'
   refine ⟨.inl ⟨rfl,_,Am.of (e46.lst hx nb)⟩,PA,_,0,.ref PB',rfl,rfl,Ad.of pA',rfl,PB',xb',rfl,.inr (Ad.of pB'),pn6',by omega,by omega,fun f3 K7 a7' c7' e7' pn7' l2' hl2' => ⟨pn7'.new hl2',by decide,by decide,fun g4 K8 a8' c8' e8' pn8' => ?_⟩⟩
   have hw : ∃ bb : Bool,Co [V.str "out",.str "scaled"] g4 = some (wV bb) := by
    have : g4 = 0 \/ g4 = 1 := by omega
    rcases this with rfl | rfl
    ·exact ⟨true,rfl⟩
    ·exact ⟨false,rfl⟩
   obtain ⟨bb,hw⟩ := hw
   refine ⟨l2',_,g4,wV bb,rfl,rfl,Am.of (e8'.lst Ai (pn7'.ne hl2')),hw,fun t1' ht1' => ?_⟩
   have e48 : Ev p H9 K8 := e46.trans (e7'.trans ((Ev.new hl2').trans e8'))
   have hb8 := e48.lst hx nb
   refine ⟨b,xs,.ref t1',rfl,rfl,by rw [Au (Bd hb8 ht1')]; exact hb8,C8 (by rw [<- rs.len,hl]; omega),_,_,_,rfl,?_,?_⟩
   ·intro c o hc
    by_cases z : c = b
    ·subst z; rw [hb] at hc; cases hc
    ·rcases ev6 c o hc with w' | w'
     ·exact .inl w'
     ·rw [Au z] at w'
      rcases (e48.trans (Ev.new (o := .tup [.int f3,wV bb,.int f1,.int (f1 + f2)]) ht1')) c o w' with w'' | w''
      ·exact .inl w''
      ·right
       rw [Au z,Au z]
       exact w''
   ·exact Filled.step (fun d h => h.nm) hx rs gd hl e48 nb hbH (ev.trans e48) pn8' ht1' (Aa.tup Ai (.cons Aa.int (.cons Aa.str (.cons Aa.int (.cons Aa.int .nil))))) ⟨⟨f3,bb,f1,f1 + f2⟩,rfl,⟨a7',by show f3 < _; omega,a5,by show f1 <= f1 + f2; omega,by show f1 + f2 < _; omega⟩⟩
  ·obtain ⟨t,f,l,rfl,ev6,fb⟩ := hP
   have kt9 : H9 t1 = some (.tup (ns.map V.int)) := by
    have z := ev6.tup kt
    rw [Au (Bd kt hb)] at z
    exact z
   obtain ⟨xs,fs,hb5,rb5,gf,lf⟩ := fb.done nb Ev.refl
   refine ⟨b,xs,rfl,.inl ⟨Am.of hb5,fun t2 ht2 t3 ht3 => ?_⟩⟩
   obtain ⟨lF,rfl,gl⟩ := KU gf
   rw [List.length_map] at lf
   have s5 := (Ab.new (o := .tup xs) ht2).trans (Ab.new (o := .tup [.ref t1,.ref t2]) ht3)
   refine q _ _ ⟨ns,lF⟩ ⟨by show 1 <= ns.length; omega,by show ns.length <= 8; omega,hu,by show lF.length <= 4; omega,fun x hx => ?_⟩ ?_ (fb.ev.trans (Ev.same s5)) (fb.pen.same s5)
   ·show x.ok _ ns.length
    rw [hn]; exact gl x hx
   ·exact Aa.tup Ai (.cons (Aa.row (s5 _ _ kt9)) (.cons (Aa.tup ((Ab.new ht3) _ _ Ai) (Ac.ev (Ev.same s5) _ _ rb5)) .nil))
 ·exact h.elim
theorem sc__law_caps : Aw ["_law_plant_here","_law_story_here","_law_rows","_law_hour","_law_row","_law_boiler","_law_make","_law_coal","_law_words"] ["_law_plant_here","_law_story_here"] (Ap s__law_caps) := Ax
theorem QI (F : Df K mg "_law_caps" s__law_caps ["_law_plant_here","_law_story_here"]) (T : Tx mg)  : Fn P w K mg base 1 "_law_caps" ["_law_plant_here","_law_story_here"] Gq := by
 refine F.fn sc__law_caps (fun vs H Q E h => ?_) (fun f cdv A outer s H vs Q E hr h => ?_)
 ·unfold Gq at h; split at h; rfl; exact h.elim
 refine ⟨_,(Aj (AE (i := 2) sc__law_caps.nd rfl (AA (by rfl)) (BH BV) (by rfl) (AR (by rfl))) (Aj (BK PassesOwn.never rfl (BU rfl T.b_range (Aq (AB (Bb K (by rfl)) rfl T.b_len PySem.boot_len (Aq (AF (AV K (by rfl)) (cx 1 (by rfl)) Af (fun _ _ => rfl)) (by rfl)) (by decide) (by decide) (by rfl) (by rfl)) (by rfl)) (by rfl)) (Ak 3 sc__law_caps.nd (by rfl)) (Aj (AE (i := 4) sc__law_caps.nd rfl (AA (by rfl)) (BH BV) (by rfl) (AR (by rfl))) (Aj (BK PassesOwn.never rfl (Eb P w K rfl T.b_enumerate (Aq (AF (AV K (by rfl)) (cx 0 (by rfl)) Af (fun _ _ => rfl)) (by rfl)) (by rfl) (by rfl) (by rfl) (by rfl)) (AD K (n := 2) (Ah (Ak 5 sc__law_caps.nd (by rfl)) (Ah (AD K (n := 2) (Ah (Ak 6 sc__law_caps.nd (by rfl)) (Ah (Ak 7 sc__law_caps.nd (by rfl)) AC (by rfl)) (by rfl)) (by rfl) (by rfl) (by rfl) (by rfl)) AC (by rfl)) (by rfl)) (by rfl) (by rfl) (by rfl) (by rfl)) (Aj (Ht (i := 8) ["_law_one","_law_word","_law_first","_law_last","_law_boiler","_law_hour"] [none,none,none,none,some 5,some 3] sc__law_caps.nd rfl (AA (by rfl)) rfl (Bz K (AF (AV K (by rfl)) (cx 1 (by rfl)) Af (fun _ _ => rfl)) (by rfl)) (AG.of rfl) (fun _ _ _ _ => (AD K (n := 4) (Ah (Ak 0 (Az (by rfl)) (by rfl)) (Ah (Ak 1 (Az (by rfl)) (by rfl)) (Ah (Ak 2 (Az (by rfl)) (by rfl)) (Ah (Ak 3 (Az (by rfl)) (by rfl)) AC (by rfl)) (by rfl)) (by rfl)) (by rfl)) (by rfl) (by rfl) (by rfl) (by rfl))) (fun _ _ _ _ => (CG (PW.pt (FO (AW Ct (cx 0 (by rfl)) (cx 4 (by rfl)) (AQ _)) (FO (AW CH (cx 2 (by rfl)) (cx 5 (by rfl)) (AQ _)) (G4 (AW CH (cx 5 (by rfl)) (cx 3 (by rfl)) (AQ _)))))))) (fun _ _ _ _ => (cx 1 (by rfl))) (by rfl) (AR (by rfl)) (by intro _; rfl)) (Al (Cc (Dh PySem.F.plainAttrs_list PySem.F.slot_list_append PySem.F.type_list_append Di (cx 4 (by rfl)) (Aq (DF (AW (DH K (by rfl)) BD (cx 8 (by rfl)) (by with_unfolding_all rfl)) Af (Av FN (cx 6 (by rfl)) (Av A8 Af (Bi Hd rfl T.b_int L2.boot_int (Aq (BM (DH K (by rfl)) BD (cx 8 (by rfl)) (by with_unfolding_all rfl)) (by rfl)) (by decide) (by decide) (by rfl) (by rfl))))) (by rfl)) (by rfl) (by rfl) (by rfl) (by rfl) (by rfl)) (by rfl)))) (by intro _; rfl)) (Al (Cc (Dh PySem.F.plainAttrs_list PySem.F.slot_list_append PySem.F.type_list_append Di (cx 2 (by rfl)) (Aq (Bi (Bu K (by rfl)) rfl T.b_tuple Bn (Aq (cx 4 (by rfl)) (by rfl)) (by decide) (by decide) (by rfl) (by rfl)) (by rfl)) (by rfl) (by rfl) (by rfl) (by rfl) (by rfl)) (by rfl))))) (by intro _; rfl)) (Al (Ao (Bi (Bu K (by rfl)) rfl T.b_tuple Bn (Aq (cx 2 (by rfl)) (by rfl)) (by decide) (by decide) (by rfl) (by rfl)))))),?_⟩
 unfold Gq at h
 split at h
 ·rename_i v u
  obtain ⟨p,P,S,ok,so,r,ru,q⟩ := h
  obtain ⟨A,B,E,xf,rfl,hA,hB,hE,rf⟩ := Aa.story ru
  obtain ⟨PA,PB,PE,PM,xb,xe,rfl,pA,pB,rb,pE,re,pM⟩ := Aa.plant r
  have x8 := so.x8
  have f4 := so.f4
  have b4 := ok.b4
  have lb := rb.len
  rw [List.length_map] at lb
  have lf := rf.len
  rw [List.length_map] at lf
  intro R hR
  have s0 : Ab H (upd H R (.lst [])) := Ab.new hR
  refine ⟨A,_,0,.ref B,rfl,rfl,Ad.of (s0 _ _ hA),rfl,B,_,rfl,.inr (Ad.of (s0 _ _ hB)),_,rfl,by omega,by rw [List.length_map]; omega,Dx (n := (S.ex.map V.int).length) (fun i σ H1 => (∃ x3 x4 x5 x6 x7 x8,σ = [some (.ref PA),some (.ref A),some (.ref R),x3,x4,x5,x6,x7,x8]) /\ Ab H H1 /\ ∃ xs,H1 R = some (.lst xs) /\ Ac p H1 (((caps P S).take i).map AH) xs)
   ⟨⟨_,_,_,_,_,_,rfl⟩,s0,[],Ai,.nil⟩ (fun i σ H1 hi hP => ?_) fun σ H1 hP => ?_⟩
  ·obtain ⟨⟨x3,x4,x5,x6,x7,x8',rfl⟩,s1,xs,hxs,rxs⟩ := hP
   rw [List.length_map] at hi
   have lx := rxs.len
   rw [List.length_map,List.length_take] at lx
   intro b hb
   have sb : Ab H1 (upd H1 b (.lst [])) := Ab.new hb
   refine ⟨PA,_,0,.ref PB,rfl,rfl,Ad.of (sb _ _ (s1 _ _ pA)),rfl,PB,rfl,⟨xb,Ad.of (sb _ _ (s1 _ _ pB))⟩,for_enum (xs := xb) (fun j σ H2 => (∃ y5 y6 y7 y8,σ = [some (.ref PA),some (.ref A),some (.ref R),some (.int (0 + i)),some (.ref b),y5,y6,y7,y8]) /\ Ab H1 H2 /\ H2 b = some (.lst (((Cf P.bs S.fs i).take j).map V.int)))
    ⟨⟨_,_,_,_,rfl⟩,sb,Ai⟩ (fun j σ H2 h => Ad.of (h.2.1 _ _ (s1 _ _ pB))) (fun j x σ H2 T hx h hT => ?_) fun σ H2 h => ?_⟩
   ·obtain ⟨⟨y5,y6,y7,y8,rfl⟩,s2,hb2⟩ := h
    obtain ⟨f,hf,rd⟩ := Ac.mapGot rb hx
    have hj : j < xb.length := (List.getElem?_eq_some_iff.mp hx).1
    have s3 : Ab H1 (upd H2 T (.tup [.int j,x])) := s2.trans (Ab.new hT)
    have s03 : Ab H (upd H2 T (.tup [.int j,x])) := s1.trans s3
    obtain ⟨l,zs,rfl,hl',rz⟩ := Aa.shape (Aa.ev (Ev.same s03) _ _ rd)
    obtain ⟨z1,z2,rfl,r1,r2⟩ := Ac.two rz
    unfold Aa at r1 r2
    subst r1 r2
    refine ⟨T,_,rfl,Ad.of Ai,rfl,_,_,rfl,_,_,rfl,l,_,rfl,Ad.of hl',rfl,_,_,rfl,_,_,rfl,rfl,rfl,?_⟩
    refine ⟨A,_,1,.ref E,rfl,rfl,Ad.of (s03 _ _ hA),rfl,E,rfl,⟨xf,Ad.of (s03 _ _ hE)⟩,BO (xs := xf) (fun k ys H3 => Ab (upd H2 T (.tup [.int j,.ref l])) H3 /\ ys = (Bo (S.fs.take k) j i).map wV) (by omega) ⟨Ab.refl _,rfl⟩ (fun k ys H' h => ?_) (fun k ys H' _ h => Ad.of (h.1 _ _ (s03 _ _ hE))) (fun k x ys H' hx h => ?_) fun ys H3 h => ?_⟩
    ·rw [h.2,List.length_map]
     unfold Bo
     rw [List.length_map]
     exact Nat.le_trans (List.length_filter_le _ _) (by rw [List.length_take]; omega)
    ·obtain ⟨g,hg,rg⟩ := Ac.mapGot rf hx
     obtain ⟨l2,zs2,rfl,hl2,rz2⟩ := Aa.shape (Aa.ev (Ev.same (s03.trans h.1)) _ _ rg)
     obtain ⟨w1,w2,w3,w4,rfl,r1,r2,r3,r4⟩ := Ac.four rz2
     unfold Aa at r1 r2 r3 r4
     subst r1 r2 r3 r4
     have nx := JL (b := j) (h := i) hg
     have no : BZ j i g = false -> Ab (upd H2 T (.tup [.int j,.ref l])) H' /\ ys = (Bo (S.fs.take (k + 1)) j i).map wV := fun e => ⟨h.1,by rw [nx,e,if_neg (by decide)]; exact h.2⟩
     refine ⟨l2,_,rfl,Ad.of hl2,rfl,_,_,rfl,_,_,rfl,_,_,rfl,_,_,rfl,rfl,⟨rfl,rfl,trivial⟩,rfl,⟨fun c1 => ⟨fun c2 => ⟨fun c3 => ?_,fun c3 => no ?_⟩,fun c2 => ⟨fun z => (by cases z),fun _ => no ?_⟩⟩,fun c1 => ⟨fun z => (by cases z),fun _ => no ?_⟩⟩⟩
     ·have e : BZ j i g = true := by
       rw [Dd] at c1
       rw [Int.zero_add] at c2 c3
       unfold BZ; rw [c1,c2,c3]; rfl
      refine ⟨h.1,?_⟩
      rw [nx,if_pos e,List.map_append,h.2]; rfl
     ·rw [Int.zero_add] at c3
      unfold BZ; rw [c3,Bool.and_false]
     ·rw [Int.zero_add] at c2
      unfold BZ; rw [c2,Bool.and_false,Bool.false_and]
     ·rw [Dd] at c1
      unfold BZ; rw [c1,Bool.false_and,Bool.false_and]
    ·intro m hm
     have ew : ys = (Bo S.fs j i).map wV := by rw [h.2,List.take_of_length_le (by omega)]
     subst ew
     have s4 : Ab H2 (upd H3 m (.lst ((Bo S.fs j i).map wV))) := (Ab.new hT).trans (h.1.trans (Ab.new hm))
     have hb4 := s4 _ _ hb2
     have hlen : (((Cf P.bs S.fs i).take j).map V.int).length < sizeLine := C8 (by rw [List.length_map,List.length_take]; omega)
     refine ⟨.inl ⟨rfl,_,Am.of hb4⟩,m,_,rfl,.inl (Am.of Ai),rfl,FU,⟨fun c => ?_,fun c => ?_⟩⟩
     ·rw [if_neg (by decide),FS] at c
      refine ⟨b,_,.int 0,rfl,rfl,hb4,hlen,⟨_,_,_,_,rfl⟩,Ab.own (s2.trans s4) hb,?_⟩
      have e : BI (Bo S.fs j i) f.1 = 0 := by unfold BI; rw [if_pos c]
      rw [Ai,A2 (HF hf),List.map_append,e]; rfl
     ·rw [if_neg (by decide),FS] at c
      refine ⟨m,_,rfl,.inl (Am.of Ai),rfl,FU,.inr ⟨_,rfl,?_⟩⟩
      have ek : (if (false = true) then !By (V.str "scaled") ((Bo S.fs j i).map wV) else By (V.str "scaled") ((Bo S.fs j i).map wV)) = (Bo S.fs j i).any (!·) := by rw [if_neg (by decide)]; exact HH
      have e := NN (m := f.1) c
      refine ⟨QG _,b,_,.int (BI (Bo S.fs j i) f.1),rfl,congrArg (fun z => [V.int z]) ((congrArg (fun (k : Bool) => f.1 / (1 + if k = true then 1 else 0)) ek).trans e),hb4,hlen,⟨_,_,_,_,rfl⟩,Ab.own (s2.trans s4) hb,?_⟩
      rw [Ai,A2 (HF hf),List.map_append]; rfl
   ·obtain ⟨⟨y5,y6,y7,y8,rfl⟩,s2,hb2⟩ := h
    rw [List.take_of_length_le (by rw [FR]; omega)] at hb2
    refine ⟨.inl ⟨rfl,_,Am.of (s2 _ _ hxs)⟩,b,_,rfl,.inl ⟨Am.of hb2,fun t ht => ?_⟩⟩
    have s3 : Ab H1 (upd H2 t (.tup ((Cf P.bs S.fs i).map V.int))) := s2.trans (Ab.new ht)
    have hR3 := s3 _ _ hxs
    refine ⟨R,xs,.ref t,rfl,rfl,hR3,C8 (by omega),⟨_,_,_,_,_,_,rfl⟩,Ab.own (s1.trans s3) hR,_,Ai,?_⟩
    have tv := TEv.upd (zs := xs ++ [.ref t]) hR3
    rw [A2 (Ed hi),List.map_append]
    refine Ac.snoc (Ac.tev ((Ev.same (p := p) s3).tev.trans tv) _ _ (EZ fun d hd => ?_) rxs) (Aa.tev tv _ _ (KT _) (Aa.row (p := p) Ai))
    obtain ⟨rr,_,rfl⟩ := List.mem_map.mp hd
    exact KT rr
  ·obtain ⟨⟨x3,x4,x5,x6,x7,x8',rfl⟩,s1,xs,hxs,rxs⟩ := hP
   refine ⟨R,xs,rfl,.inl ⟨Am.of hxs,fun t ht => q _ _ (s1.trans (Ab.new ht)) (Aa.tup Ai ?_)⟩⟩
   rw [List.take_of_length_le (by rw [DI,List.length_map]; exact Nat.le_refl _)] at rxs
   exact Ac.ev (Ev.new ht) _ _ rxs
 ·exact h.elim
end
end MF
end
section
namespace MF
open PySem PySem.Spec PyProof.Rows L2
variable {p : Addr} {H : Hp} {v : V}
theorem Aa.terms {T : TM} (r : Aa p H T.d v) : ∃ A C B D M xc,v = .ref A /\ H A = some (.tup [.ref C,.ref B,.ref D,.ref M]) /\ H C = some (.tup xc) /\ Ac p H (T.cs.map AH) xc /\ H B = some (.tup (T.co.map V.int)) /\ H D = some (.tup (T.ds.map V.int)) /\ H M = some (.tup [.int T.lo,.int T.hi,.int T.st]) := by
 unfold TM.d at r
 obtain ⟨A,xs,rfl,hA,rs⟩ := Aa.shape r
 obtain ⟨x,y,z,w,rfl,rx,ry,rz,rw⟩ := Ac.four rs
 obtain ⟨C,xc,rfl,hC,rc⟩ := Aa.shape rx
 obtain ⟨B,xb,rfl,hB,rb⟩ := Aa.shape ry
 obtain ⟨D,xd,rfl,hD,rd⟩ := Aa.shape rz
 obtain ⟨M,xm,rfl,hM,rm⟩ := Aa.shape rw
 obtain ⟨m1,m2,m3,rfl,r1,r2,r3⟩ := Ac.three rm
 unfold Aa at r1 r2 r3
 subst r1 r2 r3
 rw [Ac.ints rb] at hB
 rw [Ac.ints rd] at hD
 exact ⟨A,C,B,D,M,xc,rfl,hA,hC,rc,hB,hD,hM⟩
theorem Aa.ofRow' {r : List Int} (h : Aa p H (AH r) v) : ∃ A,v = .ref A /\ H A = some (.tup (r.map V.int)) := by
 obtain ⟨A,xs,rfl,hA,rs⟩ := Aa.shape h
 rw [Ac.ints rs] at hA
 exact ⟨A,rfl,hA⟩
def QJ (n : Int) (d : PyData) : Bool := A9 d n n && (match d with | .tuple es => es.all Ow | _ => false)
theorem KW {ns : List Int} {i : Nat} (h : i < ns.length) : Co (ns.map V.int) (i : Int) = some (.int (ns.getD i 0)) := by
 refine Dg ?_
 rw [List.getElem?_map,List.getElem?_eq_getElem h,List.getD_eq_getElem?_getD,List.getElem?_eq_getElem h]; rfl
def Ig : Sp := fun vs H Q _ => match vs with | [v,u] => ∃ p P S,PL.ok P /\ SY.ok S P.bs.length /\ Aa p H P.d v /\ Aa p H S.d u /\ ret H Q p (terms P S).d | _ => False
def sp_is_counts : Sp := fun vs H Q _ => match vs with | [x,.int m] => ∃ p d,Aa p H d x /\ m <= 1000 /\ ∀ b H',b = QJ m d -> Ab H H' -> Q (.bl b) H' | _ => False
def Gu : Sp := fun vs H Q _ => match vs with | [v,.int h,.int x,.int b] => ∃ p T n,h = ((n : Nat) : Int) /\ n < T.ds.length /\ Bw T /\ Aa p H T.d v /\ ∀ H',Ab H H' -> Q (.int (Bg T n x b)) H' | _ => False
section
variable {P : Program} {w : World} {K : PySem.W.Frag} {mg : Str -> Option Value} {base : Heap}
theorem sc_terms_of : Aw ["plant","story","caps","coals"] ["plant","story"] (Ap s_terms_of) := Ax
abbrev Du (P : Program) (w : World) (K : PySem.W.Frag) (mg : Str -> Option Value) (base : Heap) : Prop := Fn P w K mg base 10 "terms_of" ["plant","story"] Ig
theorem QK (F : Df K mg "terms_of" s_terms_of ["plant","story"]) (T : Tx mg) (D_caps_of : Fn P w K mg base 9 "caps_of" ["plant","story"] E3) (D_draws_of : Fn P w K mg base 9 "draws_of" ["plant","story"] E4) : Du P w K mg base := by
 refine F.fn sc_terms_of (fun vs H Q E h => ?_) (fun f cdv A outer s H vs Q E hr h => ?_)
 ·unfold Ig at h; split at h; rfl; exact h.elim
 refine ⟨_,(Aj (AE (i := 2) sc_terms_of.nd rfl (AA (by rfl)) (Ag D_caps_of (hr.mono (by decide)) rfl (As (cx 0 (by rfl)) (cx 1 (by rfl)) (by rfl)) (by decide) (by rfl) (by rfl)) (by rfl) (AR (by rfl))) (Aj (AE (i := 3) sc_terms_of.nd rfl (AA (by rfl)) (Bi (Bu K (by rfl)) rfl T.b_tuple Bn (Aq (A4 ["make","coal"] [none,none] rfl (Bz K (AF (AV K (by rfl)) (cx 0 (by rfl)) Af (fun _ _ => rfl)) (by rfl)) (AG.of rfl) (fun _ _ _ _ => (AD K (n := 2) (Ah (Ak 0 (Az (by rfl)) (by rfl)) (Ah (Ak 1 (Az (by rfl)) (by rfl)) AC (by rfl)) (by rfl)) (by rfl) (by rfl) (by rfl) (by rfl))) (fun _ _ _ _ => A3) (fun _ _ _ _ => (cx 1 (by rfl))) (by intro _; rfl)) (by rfl)) (by decide) (by decide) (by rfl) (by rfl)) (by rfl) (AR (by rfl))) (Al (Ao (Bs (C1 (cx 2 (by rfl)) (cx 3 (by rfl)) (Ag D_draws_of (hr.mono (by decide)) rfl (As (cx 0 (by rfl)) (cx 1 (by rfl)) (by rfl)) (by decide) (by rfl) (by rfl)) (AF (AV K (by rfl)) (cx 0 (by rfl)) Af (fun _ _ => rfl)) (by rfl))))))),?_⟩
 unfold Ig at h
 split at h
 ·rename_i v u
  obtain ⟨p,P,S,ok,so,r,ru,q⟩ := h
  refine ⟨p,P,S,ok,so,r,ru,fun cv H1 s1 rc => ?_⟩
  obtain ⟨PA,PB,PE,PM,xb,xe,rfl,pA,pB,rb,pE,re,pM⟩ := Aa.plant (Aa.ev (Ev.same s1) _ _ r)
  have b4 := ok.b4
  have lb := rb.len
  rw [List.length_map] at lb
  refine ⟨PA,_,0,.ref PB,rfl,rfl,Ad.of pA,rfl,PB,rfl,⟨xb,Ad.of pB⟩,BO (xs := xb) (fun i ys H' => Ab H1 H' /\ ys = ((P.bs.take i).map fun q => V.int q.2)) (by omega) ⟨Ab.refl _,rfl⟩ (fun i ys H' h => by rw [h.2,List.length_map,List.length_take]; omega) (fun i ys H' _ h => Ad.of (h.1 _ _ pB)) (fun i x ys H' hx h => ?_) fun ys H' h => ?_⟩
  ·obtain ⟨f,hf,rd⟩ := Ac.mapGot rb hx
   obtain ⟨l,zs,rfl,hl',rz⟩ := Aa.shape (Aa.ev (Ev.same h.1) _ _ rd)
   obtain ⟨y1,y2,rfl,r1,r2⟩ := Ac.two rz
   unfold Aa at r1 r2
   subst r1 r2
   refine ⟨l,_,rfl,Ad.of hl',rfl,_,_,rfl,_,_,rfl,rfl,trivial,fun _ => ⟨h.1,?_⟩,fun z => by cases z⟩
   rw [A2 hf,List.map_append,h.2]; rfl
  ·intro m hm
   refine ⟨m,_,rfl,.inl ⟨Am.of Ai,fun t ht => ?_⟩⟩
   have nt := Ab.new (o := .tup ys) ht
   have s2 := h.1.trans ((Ab.new (o := .lst ys) hm).trans nt)
   refine ⟨p,P,S,ok,so,Aa.ev (Ev.same (s1.trans s2)) _ _ r,Aa.ev (Ev.same (s1.trans s2)) _ _ ru,fun dv H3 s3 rd => ?_⟩
   have s13 := s2.trans s3
   refine ⟨PA,_,2,.ref PM,rfl,rfl,Ad.of (s13 _ _ pA),rfl,fun t2 ht2 => ?_⟩
   have s4 := Ab.new (o := .tup [cv,.ref t,dv,.ref PM]) ht2
   have ey : ys = (P.bs.map (·.2)).map V.int := by rw [h.2,List.take_of_length_le (by omega),List.map_map]; rfl
   have ht4 := (s3.trans s4) _ _ (Ai (H := upd H' m (.lst ys)) (a := t) (o := .tup ys))
   rw [ey] at ht4
   refine q _ _ (s1.trans (s13.trans s4)) (Aa.tup Ai (.cons (Aa.ev (Ev.same (s13.trans s4)) _ _ rc) (.cons (Aa.row ht4) (.cons (Aa.ev (Ev.same s4) _ _ rd) (.cons (Aa.tup ((s13.trans s4) _ _ pM) (.cons Aa.int (.cons Aa.int (.cons Aa.int .nil)))) .nil)))))
 ·exact h.elim
theorem sc_floor_at : Aw ["terms","hour","price","behind","caps","coals","draws","low","high","start","spared","kept"] ["terms","hour","price","behind"] (Ap s_floor_at) := Ax
theorem QL (F : Df K mg "floor_at" s_floor_at ["terms","hour","price","behind"]) (T : Tx mg)  : Fn P w K mg base 1 "floor_at" ["terms","hour","price","behind"] Gu := by
 refine F.fn sc_floor_at (fun vs H Q E h => ?_) (fun f cdv A outer s H vs Q E hr h => ?_)
 ·unfold Gu at h; split at h; rfl; exact h.elim
 refine ⟨_,(Aj (A7 (cx 0 (by rfl)) (AD K (n := 4) (Ah (Ak 4 sc_floor_at.nd (by rfl)) (Ah (Ak 5 sc_floor_at.nd (by rfl)) (Ah (Ak 6 sc_floor_at.nd (by rfl)) (Ah (AD K (n := 3) (Ah (Ak 7 sc_floor_at.nd (by rfl)) (Ah (Ak 8 sc_floor_at.nd (by rfl)) (Ah (Ak 9 sc_floor_at.nd (by rfl)) AC (by rfl)) (by rfl)) (by rfl)) (by rfl) (by rfl) (by rfl) (by rfl)) AC (by rfl)) (by rfl)) (by rfl)) (by rfl)) (by rfl) (by rfl) (by rfl) (by rfl)) (by rfl) (by rfl) (by rfl)) (Aj (AE (i := 10) sc_floor_at.nd rfl (AA (by rfl)) (AB (FQ rfl) rfl T.b_sum boot_sum (Aq (A4 ["cap","coal","price"] [none,none,some 2] rfl (Ec P w K rfl T.b_zip (As (AF (AV K (by rfl)) (cx 4 (by rfl)) (cx 1 (by rfl)) (fun _ _ => rfl)) (cx 5 (by rfl)) (by rfl)) (by rfl) (by rfl) (by rfl) (by rfl) (by rfl)) (AG.of rfl) (fun _ _ _ _ => (AD K (n := 2) (Ah (Ak 0 (Az (by rfl)) (by rfl)) (Ah (Ak 1 (Az (by rfl)) (by rfl)) AC (by rfl)) (by rfl)) (by rfl) (by rfl) (by rfl) (by rfl))) (fun _ _ _ _ => (CG (AW DE (cx 1 (by rfl)) (cx 2 (by rfl)) (AQ _)))) (fun _ _ _ _ => (Av CY (cx 0 (by rfl)) (Av BF (cx 1 (by rfl)) (cx 2 (by rfl))))) (by intro _; rfl)) (by rfl)) (by decide) (by decide) (by rfl) (by rfl)) (by rfl) (AR (by rfl))) (Aj (AE (i := 11) sc_floor_at.nd rfl (AA (by rfl)) (Av CY (Av BF (cx 2 (by rfl)) (cx 3 (by rfl))) (DF (AW Hx (cx 2 (by rfl)) (cx 3 (by rfl)) (AQ _)) (cx 7 (by rfl)) (cx 8 (by rfl)))) (by rfl) (AR (by rfl))) (Al (Ao (Av A8 (Av A8 (Av CY (cx 2 (by rfl)) (AF (AV K (by rfl)) (cx 6 (by rfl)) (cx 1 (by rfl)) (fun _ _ => rfl))) (cx 10 (by rfl))) (cx 11 (by rfl)))))))),?_⟩
 unfold Gu at h
 split at h
 ·rename_i v hh x b
  obtain ⟨p,T,n,rfl,hn,ok,r,q⟩ := h
  obtain ⟨A,C,B,D,M,xc,rfl,hA,hC,rc,hB,hD,hM⟩ := Aa.terms r
  have l8 := ok.ok.l8
  have lc := ok.ok.lc
  have o4 := ok.o
  have hrow : T.cs[n]? = some (T.cs.getD n []) := by rw [List.getD_eq_getElem?_getD,List.getElem?_eq_getElem (by omega)]; rfl
  obtain ⟨lr,cr⟩ := ok.c _ (List.mem_of_getElem? hrow)
  obtain ⟨y,hy,ry⟩ := rc.get (i := n) (d := AH (T.cs.getD n [])) (by rw [List.getElem?_map,hrow]; rfl)
  obtain ⟨Cn,rfl,hCn⟩ := Aa.ofRow' ry
  have q' : ∀ H',Ab H H' -> Q (.int (x * T.ds.getD n 0 + spared (T.cs.getD n []) T.co x + CJ T.lo T.hi x b)) H' := q
  generalize T.cs.getD n [] = row at hrow lr cr hCn q'
  refine ⟨A,_,rfl,Ad.of hA,rfl,_,_,rfl,_,_,rfl,_,_,rfl,_,_,rfl,M,_,rfl,Ad.of hM,rfl,_,_,rfl,_,_,rfl,_,_,rfl,rfl,rfl,?_⟩
  refine ⟨C,xc,(n : Int),.ref Cn,rfl,rfl,Ad.of hC,Dg hy,Cn,B,rfl,⟨_,Ad.of hCn⟩,⟨_,Ad.of hB⟩,walk_zip (xs := row.map V.int) (ys := T.co.map V.int) (fun i zs H' => Ab H H' /\ ∃ ns : List Int,zs = ns.map V.int /\ ns.length <= i /\ ns.sum = (((row.zip T.co).take i).map (B8 x)).sum) (by rw [List.length_map]; omega) (by rw [List.length_map,List.length_map]; exact lr) ⟨Ab.refl _,[],rfl,Nat.le_refl _,rfl⟩
    (fun i zs H' h => by obtain ⟨_,ns,rfl,hl,_⟩ := h; rw [List.length_map]; exact hl) (fun i zs H' h => ⟨Ad.of (h.1 _ _ hCn),Ad.of (h.1 _ _ hB)⟩) (fun i xx yy zs H' T' hx hy h hT => ?_) fun zs H' h => ?_⟩
  ·rw [List.getElem?_map] at hx hy
   obtain ⟨m,hm,rfl⟩ := Option.map_eq_some_iff.mp hx
   obtain ⟨k,hk,rfl⟩ := Option.map_eq_some_iff.mp hy
   obtain ⟨s0,ns,rfl,hl,hs⟩ := h
   have s2 := s0.trans (Ab.new (o := .tup [.int m,.int k]) hT)
   have hz : (row.zip T.co)[i]? = some (m,k) := by rw [List.getElem?_zip_eq_some]; exact ⟨hm,hk⟩
   have bm := cr m (List.mem_of_getElem? hm)
   refine ⟨T',_,rfl,Ad.of Ai,rfl,_,_,rfl,_,_,rfl,rfl,⟨rfl,trivial⟩,fun c => ?_,fun c => ?_⟩
   ·refine ⟨.inl ⟨by omega,by omega⟩,s2,ns ++ [m * (k - x)],by rw [List.map_append]; rfl,by rw [List.length_append]; simp; exact hl,?_⟩
    rw [A2 hz,List.map_append,List.sum_append,List.sum_append,hs]
    have e : B8 x (m,k) = m * (k - x) := by unfold B8; exact if_pos (of_decide_eq_true c)
    simp [e]
   ·refine ⟨s2,ns,rfl,by omega,?_⟩
    rw [A2 hz,List.map_append,List.sum_append,hs]
    have e : B8 x (m,k) = 0 := by unfold B8; exact if_neg (of_decide_eq_false c)
    simp [e]
  ·obtain ⟨s0,ns,rfl,hl,hs⟩ := h
   intro m hm
   have s2 := s0.trans (Ab.new (o := .lst (ns.map V.int)) hm)
   have es : ns.sum = spared row T.co x := by rw [hs,List.take_of_length_le (by rw [List.length_zip,List.length_map]; omega)]; rfl
   refine ⟨m,ns,rfl,Ai,?_⟩
   rw [es]
   have h0 := ok.l0
   have h1 := ok.l4
   have h2 := ok.h0
   have h3 := ok.h4
   have bd := ok.d _ (getD_mem (d := 0) hn)
   refine ⟨fun c => ⟨.inr ⟨by omega,by omega⟩,D,_,(n : Int),.int (T.ds.getD n 0),rfl,rfl,Ad.of (s2 _ _ hD),KW hn,.inr ⟨by omega,by omega⟩,?_⟩,fun c => ⟨.inr ⟨by omega,by omega⟩,D,_,(n : Int),.int (T.ds.getD n 0),rfl,rfl,Ad.of (s2 _ _ hD),KW hn,.inr ⟨by omega,by omega⟩,?_⟩⟩
   ·have e : CJ T.lo T.hi x b = (x - b) * T.lo := by unfold CJ; rw [if_pos (of_decide_eq_true c)]
    rw [e] at q'
    exact q' _ s2
   ·have e : CJ T.lo T.hi x b = (x - b) * T.hi := by unfold CJ; rw [if_neg (of_decide_eq_false c)]
    rw [e] at q'
    exact q' _ s2
 ·exact h.elim
end
end MF
end
section
namespace MF
open PySem PySem.Spec PyProof.Rows L2
variable {p : Addr} {H : Hp} {ps : List Int} {v : V}
theorem Aa.tailShape {f : Int} (r : Aa p H (Ch f ps) v) : ∃ a b,v = .ref a /\ H a = some (.tup [.int f,.ref b]) /\ H b = some (.tup (ps.map V.int)) := by
 obtain ⟨a,xs,rfl,ha,rs⟩ := Aa.shape r
 obtain ⟨x,y,rfl,rx,ry⟩ := Ac.two rs
 unfold Aa at rx
 subst rx
 obtain ⟨b,ys,rfl,hb,rb⟩ := Aa.shape ry
 rw [Ac.ints rb] at hb
 exact ⟨a,b,rfl,ha,hb⟩
theorem KY {f f' : Int} {ps' : List Int} (r : Aa p H (Ch f ps) v) (r' : Aa p H (Ch f' ps') v) : f = f' := by
 obtain ⟨a,b,rfl,ha,hb⟩ := Aa.tailShape r
 obtain ⟨a',b',e,ha',hb'⟩ := Aa.tailShape r'
 cases e
 rw [ha] at ha'
 injection ha' with e
 injection e with e
 injection e with e1 _
 injection e1
def Gv : Sp := fun vs H Q _ => match vs with | [v,.int h,.ref d] => ∃ p T n o kvs,Bw T /\ h = ((n : Nat) : Int) /\ n < T.ds.length /\ Aa p H T.d v /\ H d = some (.frz o (.dK kvs)) /\ kvs.length <= 5 /\ TailsAt p H T (n + 1) kvs /\ ∀ d' H' o' kvs',Ab H H' -> H' d' = some (.frz o' (.dK kvs')) -> kvs'.length <= 5 -> TailsAt p H' T n kvs' -> Q (.ref d') H' | _ => False
def E6 : Sp := fun vs H Q _ => match vs with | [v] => ∃ p T,Bw T /\ Aa p H T.d v /\ ∀ u H' f ps,Ab H H' -> Aa p H' (Ch f ps) u -> Cp T f ps -> Q u H' | _ => False
section
variable {P : Program} {w : World} {K : PySem.W.Frag} {mg : Str -> Option Value} {base : Heap}
theorem sc_tails_from : Aw ["terms","hour","tails","caps","coals","draws","main"] ["terms","hour","tails"] (Ap s_tails_from) := Ax
theorem QM (F : Df K mg "tails_from" s_tails_from ["terms","hour","tails"]) (T : Tx mg) (D_floor_at : Fn P w K mg base 1 "floor_at" ["terms","hour","price","behind"] Gu) : Fn P w K mg base 2 "tails_from" ["terms","hour","tails"] Gv := by
 refine F.fn sc_tails_from (fun vs H Q E h => ?_) (fun f cdv A outer s H vs Q E hr h => ?_)
 ·unfold Gv at h; split at h; rfl; exact h.elim
 refine ⟨_,(@Aj _ _ _ _ _ (@A7 _ _ _ _ _ _ (@cx _ 0 _ _ (by rfl)) (@AD _ K _ _ _ (4) _ (@Ah _ _ _ _ _ (@Ak _ _ _ 3 sc_tails_from.nd (by rfl)) (@Ah _ _ _ _ _ (@Ak _ _ _ 4 sc_tails_from.nd (by rfl)) (@Ah _ _ _ _ _ (@Ak _ _ _ 5 sc_tails_from.nd (by rfl)) (@Ah _ _ _ _ _ (@Ak _ _ _ 6 sc_tails_from.nd (by rfl)) (@AC _) (by rfl)) (by rfl)) (by rfl)) (by rfl)) (by rfl) (by rfl) (by rfl) (by rfl)) (by rfl) (by rfl) (by rfl)) (@Al _ _ _ (@Ao _ _ _ _ (OH ["price","terms","hour","tails"] [none,some 0,some 1,some 2] rfl (@Bz _ K _ _ _ (@Av _ _ _ _ _ _ _ _ (@DG _) (@B0 _ _ _ _ _ (@Aq _ _ _ (@Af _ _ _ _) (by rfl))) (@cx _ 4 _ _ (by rfl))) (by rfl)) (AG.of rfl) (fun _ _ _ _ => (@Ak _ _ _ 0 (Az (by rfl)) (by rfl))) (fun _ _ _ _ => (@A3 _)) (fun _ _ _ _ => (@cx _ 0 _ _ (by rfl))) (fun _ _ _ _ => (@AB _ _ _ _ _ _ _ _ _ (Ke rfl hr) rfl T.b_max boot_max (@Aq _ _ _ (@A4 _ _ _ _ _ _ _ _ _ _ _ ["behind","floor","prices","terms","hour","price"] [none,none,none,some 1,some 2,some 0] rfl (J6 (@cx _ 3 _ _ (by rfl))) (AG.of rfl) (fun _ _ _ _ => (@AD _ K _ _ _ (2) _ (@Ah _ _ _ _ _ (@Ak _ _ _ 0 (Az (by rfl)) (by rfl)) (@Ah _ _ _ _ _ (@AD _ K _ _ _ (2) _ (@Ah _ _ _ _ _ (@Ak _ _ _ 1 (Az (by rfl)) (by rfl)) (@Ah _ _ _ _ _ (@Ak _ _ _ 2 (Az (by rfl)) (by rfl)) (@AC _) (by rfl)) (by rfl)) (by rfl) (by rfl) (by rfl) (by rfl)) (@AC _) (by rfl)) (by rfl)) (by rfl) (by rfl) (by rfl) (by rfl))) (fun _ _ _ _ => (@A3 _)) (fun _ _ _ _ => (@B0 _ _ _ _ _ (@As _ _ _ _ _ (@Av _ _ _ _ _ _ _ _ (@A8 _) (@Ag _ _ _ _ _ _ _ _ _ _ D_floor_at (hr.mono (by decide)) rfl (@C1 _ _ _ _ _ _ _ _ _ (@cx _ 3 _ _ (by rfl)) (@cx _ 4 _ _ (by rfl)) (@cx _ 5 _ _ (by rfl)) (@cx _ 0 _ _ (by rfl)) (by rfl)) (by decide) (by rfl) (by rfl)) (@cx _ 1 _ _ (by rfl))) (@Av _ _ _ _ _ _ _ _ (@DG _) (@B0 _ _ _ _ _ (@Aq _ _ _ (@cx _ 5 _ _ (by rfl)) (by rfl))) (@cx _ 2 _ _ (by rfl))) (by rfl)))) (by intro _; rfl)) (by rfl)) (by decide) (by decide) (by rfl) (by rfl))))))),?_⟩
 unfold Gv at h
 split at h
 ·rename_i v hh d
  obtain ⟨p,T,n,o,kvs,fl,rfl,hn,r,hd,l5,ta,q⟩ := h
  obtain ⟨A,C,B,D,M,xc,rfl,hA,hC,rc,hB,hD,hM⟩ := Aa.terms r
  have o4 := fl.o
  have l8 := fl.ok.l8
  refine ⟨A,_,rfl,Ad.of hA,rfl,_,_,rfl,_,_,rfl,_,_,rfl,_,_,rfl,rfl,?_⟩
  refine fun t1 H1 s1 k1 => ⟨t1,B,_,_,rfl,rfl,k1,s1 _ _ hB,by rw [List.length_map]; show 1 + _ <= 1000; omega,fun t2 H2 s2 k2 => ?_⟩
  have ek : [V.int 0] ++ T.co.map V.int = (0 :: T.co).map V.int := rfl
  rw [ek] at k2
  have s02 := s1.trans s2
  have lc : (0 :: T.co).length <= 5 := by rw [List.length_cons]; omega
  have ne : kvs ≠ [] := fun z => by
   obtain ⟨q,hq,_⟩ := ta.all 0 (by unfold DN; split <;> first | rfl | exact List.mem_cons_self)
   rw [z] at hq; cases hq
  refine ⟨t2,rfl,⟨_,Ad.of k2⟩,OR (xs := (0 :: T.co).map V.int) (fun i ks H' => Ab H2 H' /\ ks.length <= i /\ (∀ q ∈ ks,∃ x f ps,q.1 = .inl x /\ Aa p H' (Ch f ps) q.2 /\ OneTail T n x f ps) /\ ∀ x ∈ (0 :: T.co).take i,∃ q ∈ ks,q.1 = .inl x) (by rw [List.length_map]; omega) ⟨Ab.refl _,Nat.zero_le _,(fun _ h => nomatch h),fun x h => (by rw [List.take_zero] at h; cases h)⟩ (fun i ks H' h => h.2.1) (fun i ks H' _ h => Ad.of (h.1 _ _ k2)) (fun i x ks H' hx h => ?_) fun ks H' h => ?_⟩
  ·rw [List.getElem?_map] at hx
   obtain ⟨pr,hpr,rfl⟩ := Option.map_eq_some_iff.mp hx
   have mpr := List.mem_of_getElem? hpr
   obtain ⟨s2',lk,one,all⟩ := h
   have s0 := s02.trans s2'
   have r0 := Aa.ev (Ev.same (p := p) s0) _ _ r
   refine ⟨⟨rfl,rfl,rfl,trivial⟩,fun _ => ?_,fun z => by cases z⟩
   refine ⟨d,o,kvs,rfl,s0 _ _ hd,J7 (fun j zs H'' => Ab H' H'' /\ ∃ fs : List (Int × List PyData),Ac p H'' (fs.map fun q => .tuple (.int q.1 :: q.2)) zs /\ fs.length = j /\ ∀ k q0,k < j -> kvs[k]? = some q0 -> ∃ fq,fs[k]? = some fq /\ F2 p H T (n + 1) (fun b f => Bg T n pr b + f) (fun ps => pr :: ps) q0 fq) (by omega) ⟨Ab.refl _,[],.nil,rfl,(fun k _ h => absurd h (Nat.not_lt_zero k))⟩ (fun j zs H'' h => by obtain ⟨_,fs,rs,lf,_⟩ := h; rw [<- rs.len,List.length_map,lf]; exact Nat.le_refl _) (fun j zs H'' h => h.1 _ _ (s0 _ _ hd)) (fun j q0 zs H'' T' hq h hT => ?_) fun zs H'' h => ?_⟩
   ·obtain ⟨s3,fs,rs,lf,hfs⟩ := h
    obtain ⟨b,f,ps,eb,rq,ot⟩ := ta.one q0 (List.mem_of_getElem? hq)
    obtain ⟨kk,y⟩ := q0
    have eb' : kk = .inl b := eb
    subst eb'
    have lps := ot.len
    have sT := Ab.new (o := .tup [.int b,y]) hT
    have s4 := s3.trans sT
    have s04 := s0.trans s4
    obtain ⟨l,bb,ey,hl,hbb⟩ := Aa.tailShape (Aa.ev (Ev.same s04) _ _ rq)
    replace ey : y = .ref l := ey
    subst ey
    refine ⟨T',_,rfl,Ad.of Ai,rfl,_,_,rfl,_,_,rfl,l,_,rfl,Ad.of hl,rfl,_,_,rfl,_,_,rfl,rfl,rfl,⟨rfl,rfl,rfl,trivial⟩,fun _ => ?_,fun z => by cases z⟩
    have r4 := Aa.ev (Ev.same (p := p) s04) _ _ r
    refine ⟨p,T,n,rfl,hn,fl,r4,fun H5 s5 => fun t6 H6 s6 k6 => ⟨t6,bb,_,_,rfl,rfl,k6,(s5.trans s6) _ _ hbb,by rw [List.length_map]; show 1 + _ <= 1000; omega,fun t7 H7 s7 k7 => fun t8 H8 s8 k8 => ?_⟩⟩
    have ek7 : [V.int pr] ++ ps.map V.int = (pr :: ps).map V.int := rfl
    rw [ek7] at k7
    have s58 := s5.trans (s6.trans (s7.trans s8))
    refine ⟨s4.trans s58,fs ++ [(Bg T n pr b + f,[AH (pr :: ps)])],?_,by rw [List.length_append,lf]; rfl,fun k q1 hk hq1 => ?_⟩
    ·rw [List.map_append]
     have s38 : Ab H'' H8 := sT.trans s58
     exact Ac.snoc (Ac.ev (Ev.same s38) _ _ rs) (Aa.tup k8 (.cons Aa.int (.cons (Aa.row (s8 _ _ k7)) .nil)))
    ·by_cases z : k < j
     ·obtain ⟨fq,h1,h2⟩ := hfs k q1 z hq1
      exact ⟨fq,by rw [List.getElem?_append_left (by omega)]; exact h1,h2⟩
     ·obtain rfl : k = j := by omega
      rw [hq] at hq1
      cases hq1
      exact ⟨_,by rw [List.getElem?_append_right (by omega),lf,Nat.sub_self]; rfl,b,f,ps,rfl,rq,ot,rfl⟩
   ·obtain ⟨s3,fs,rs,lf,hfs⟩ := h
    intro L hL
    have nL := Ab.new (o := .lst zs) hL
    have rsL := Ac.ev (Ev.same (p := p) nL) _ _ rs
    have row : ∀ fq ∈ fs,∃ q0 ∈ kvs,F2 p H T (n + 1) (fun b f => Bg T n pr b + f) (fun ps => pr :: ps) q0 fq := fun fq hfq => by
     obtain ⟨k,hk⟩ := List.getElem?_of_mem hfq
     have hk' := (List.getElem?_eq_some_iff.mp hk).1
     obtain ⟨fq',h1,h2⟩ := hfs k kvs[k] (by omega) (List.getElem?_eq_getElem (by omega))
     rw [hk] at h1; cases h1
     exact ⟨_,List.getElem_mem _,h2⟩
    refine ⟨p,L,fs,zs,rfl,Ai,rsL,fun z => ne (List.eq_nil_of_length_eq_zero (by rw [z] at lf; exact lf.symm)),fun q1 h1 q2 h2 => ?_,fun i' fq v hfq hv top => ?_⟩
    ·obtain ⟨_,_,b1,f1,ps1,_,_,_,e1⟩ := row q1 h1
     obtain ⟨_,_,b2,f2,ps2,_,_,_,e2⟩ := row q2 h2
     rw [e1,e2]
     exact .cons (.row _ _) .nil
    ·obtain ⟨q0,m0,b,f,ps,eb,rq,ot,rfl⟩ := row fq (List.mem_of_getElem? hfq)
     obtain ⟨v',hv',rv⟩ := rsL.get (i := i') (d := Ch (Bg T n pr b + f) (pr :: ps)) (by rw [List.getElem?_map,hfq]; rfl)
     rw [hv] at hv'; cases hv'
     have ot' : OneTail T n pr (Bg T n pr b + f) (pr :: ps) := OneTail.step ta hn mpr ot fun b' f' ps' o1 ⟨q1,m1,e1,r1⟩ => by
      obtain ⟨k,hk⟩ := List.getElem?_of_mem m1
      have hk' := (List.getElem?_eq_some_iff.mp hk).1
      obtain ⟨fq',g1,b2,f2,ps2,e2,r2,o2,rfl⟩ := hfs k q1 hk' hk
      have eb2 : b2 = b' := by rw [e1] at e2; injection e2 with e2; exact e2.symm
      subst eb2
      have ef := KY r1 r2
      subst ef
      exact top _ (List.mem_of_getElem? g1)
     have s2L := s2'.trans (s3.trans nL)
     refine ⟨.inl pr,rfl,s2L,Nat.le_trans (J8 _ _ _) (by omega),fun q1 h1 => ?_,fun x hx => ?_⟩
     ·rcases OX h1 with h1 | rfl
      ·obtain ⟨x,f1,ps1,e1,r1,o1⟩ := one q1 h1
       exact ⟨x,f1,ps1,e1,Aa.ev (Ev.same (s3.trans nL)) _ _ r1,o1⟩
      ·exact ⟨pr,_,_,rfl,rv,ot'⟩
     ·rw [A2 hpr] at hx
      rcases List.mem_append.mp hx with hx | hx
      ·obtain ⟨q1,h1,e1⟩ := all x hx
       obtain ⟨q2,h2,e2⟩ := OZ (k := .inl pr) (v := v) h1
       exact ⟨q2,h2,e2.trans e1⟩
      ·rw [List.mem_singleton.mp hx]
       exact OY
  ·obtain ⟨s2',lk,one,all⟩ := h
   intro d' o' hd'
   rw [List.length_map] at lk all
   have nd := Ab.new (o := .frz o' (.dK ks)) hd'
   refine q d' _ o' ks (s02.trans (s2'.trans nd)) Ai (by omega) ⟨fun q1 h1 => ?_,fun x hx => ?_⟩
   ·obtain ⟨x,f1,ps1,e1,r1,o1⟩ := one q1 h1
    exact ⟨x,f1,ps1,e1,Aa.ev (Ev.same nd) _ _ r1,o1⟩
   ·unfold DN at hx
    rw [if_neg (by omega)] at hx
    exact all x (by rw [List.take_length]; exact hx)
 ·exact h.elim
theorem sc_highest_floor : Aw ["terms","caps","coals","draws","low","high","start","tails","hour"] ["terms"] (Ap s_highest_floor) := Ax
theorem QN (F : Df K mg "highest_floor" s_highest_floor ["terms"]) (T : Tx mg) (D_tails_from : Fn P w K mg base 2 "tails_from" ["terms","hour","tails"] Gv) : Fn P w K mg base 3 "highest_floor" ["terms"] E6 := by
 refine F.fn sc_highest_floor (fun vs H Q E h => ?_) (fun f cdv A outer s H vs Q E hr h => ?_)
 ·unfold E6 at h; split at h; rfl; exact h.elim
 refine ⟨_,(@Aj _ _ _ _ _ (@A7 _ _ _ _ _ _ (@cx _ 0 _ _ (by rfl)) (@AD _ K _ _ _ (4) _ (@Ah _ _ _ _ _ (@Ak _ _ _ 1 sc_highest_floor.nd (by rfl)) (@Ah _ _ _ _ _ (@Ak _ _ _ 2 sc_highest_floor.nd (by rfl)) (@Ah _ _ _ _ _ (@Ak _ _ _ 3 sc_highest_floor.nd (by rfl)) (@Ah _ _ _ _ _ (@AD _ K _ _ _ (3) _ (@Ah _ _ _ _ _ (@Ak _ _ _ 4 sc_highest_floor.nd (by rfl)) (@Ah _ _ _ _ _ (@Ak _ _ _ 5 sc_highest_floor.nd (by rfl)) (@Ah _ _ _ _ _ (@Ak _ _ _ 6 sc_highest_floor.nd (by rfl)) (@AC _) (by rfl)) (by rfl)) (by rfl)) (by rfl) (by rfl) (by rfl) (by rfl)) (@AC _) (by rfl)) (by rfl)) (by rfl)) (by rfl)) (by rfl) (by rfl) (by rfl) (by rfl)) (by rfl) (by rfl) (by rfl)) (@Aj _ _ _ _ _ (@AE _ _ (7) _ _ _ _ sc_highest_floor.nd rfl (AA (by rfl)) (OP (@B0 _ _ _ _ _ (@As _ _ _ _ _ (@Af _ _ _ _) (@B0 _ _ _ _ _ (@BV _)) (by rfl)))) (by rfl) (AR (by rfl))) (@Aj _ _ _ _ _ (@BK _ _ _ _ _ _ _ _ PassesOwn.never rfl (ON rfl T.b_reversed rfl T.b_range (@Aq _ _ _ (@AB _ _ _ _ _ _ _ _ _ (@Bb _ K (by rfl)) rfl T.b_len PySem.boot_len (@Aq _ _ _ (@cx _ 3 _ _ (by rfl)) (by rfl)) (by decide) (by decide) (by rfl) (by rfl)) (by rfl))) (@Ak _ _ _ 8 sc_highest_floor.nd (by rfl)) (@Al _ _ _ (@AE _ _ (7) _ _ _ _ sc_highest_floor.nd rfl (AA (by rfl)) (@Ag _ _ _ _ _ _ _ _ _ _ D_tails_from (hr.mono (by decide)) rfl (@AL _ _ _ _ _ _ _ (@cx _ 0 _ _ (by rfl)) (@cx _ 8 _ _ (by rfl)) (@cx _ 7 _ _ (by rfl)) (by rfl)) (by decide) (by rfl) (by rfl)) (by rfl) (AR (by rfl)))) (by intro _; rfl)) (@Al _ _ _ (@Ao _ _ _ _ (@AB _ _ _ _ _ _ _ _ _ (Ke rfl hr) rfl T.b_max boot_max (@Aq _ _ _ (@A4 _ _ _ _ _ _ _ _ _ _ _ ["price","floor","prices","start"] [none,none,none,some 6] rfl (J6 (@cx _ 7 _ _ (by rfl))) (AG.of rfl) (fun _ _ _ _ => (@AD _ K _ _ _ (2) _ (@Ah _ _ _ _ _ (@Ak _ _ _ 0 (Az (by rfl)) (by rfl)) (@Ah _ _ _ _ _ (@AD _ K _ _ _ (2) _ (@Ah _ _ _ _ _ (@Ak _ _ _ 1 (Az (by rfl)) (by rfl)) (@Ah _ _ _ _ _ (@Ak _ _ _ 2 (Az (by rfl)) (by rfl)) (@AC _) (by rfl)) (by rfl)) (by rfl) (by rfl) (by rfl) (by rfl)) (@AC _) (by rfl)) (by rfl)) (by rfl) (by rfl) (by rfl) (by rfl))) (fun _ _ _ _ => (@A3 _)) (fun _ _ _ _ => (@B0 _ _ _ _ _ (@As _ _ _ _ _ (@Av _ _ _ _ _ _ _ _ (@BF _) (@cx _ 1 _ _ (by rfl)) (@Av _ _ _ _ _ _ _ _ (@CY _) (@cx _ 0 _ _ (by rfl)) (@cx _ 3 _ _ (by rfl)))) (@cx _ 2 _ _ (by rfl)) (by rfl)))) (by intro _; rfl)) (by rfl)) (by decide) (by decide) (by rfl) (by rfl))))))),?_⟩
 unfold E6 at h
 split at h
 ·rename_i v
  obtain ⟨p,T,fl,r,q⟩ := h
  obtain ⟨A,C,B,D,M,xc,rfl,hA,hC,rc,hB,hD,hM⟩ := Aa.terms r
  have l8 := fl.ok.l8
  refine ⟨A,_,rfl,Ad.of hA,rfl,_,_,rfl,_,_,rfl,_,_,rfl,_,_,rfl,M,_,rfl,Ad.of hM,rfl,_,_,rfl,_,_,rfl,_,_,rfl,rfl,rfl,?_⟩
  refine fun t1 H1 s1 k1 => fun t2 H2 s2 k2 => fun d0 o0 hd0 => ?_
  have n0 := Ab.new (o := .frz o0 (.dK [(.inl 0,.ref t2)])) hd0
  have r2 : Aa p H2 (Ch 0 []) (.ref t2) := Aa.tup k2 (.cons Aa.int (.cons (Aa.tup (s2 _ _ k1) .nil) .nil))
  have ta0 := (O0 (T := T) r2).same n0
  have s3 := s1.trans (s2.trans n0)
  have kd0 : upd H2 d0 (.frz o0 (.dK [(.inl 0,.ref t2)])) d0 = some (.frz o0 (.dK [(.inl 0,.ref t2)])) := Ai
  generalize upd H2 d0 (.frz o0 (.dK [(.inl 0,.ref t2)])) = H3 at s3 ta0 kd0 ⊢
  refine ⟨D,_,rfl,.inr (Ad.of (s3 _ _ hD)),_,rfl,by omega,by rw [List.length_map]; omega,NG (fun i σ H' => ∃ x8 d o kvs,σ = [some (.ref A),some (.ref C),some (.ref B),some (.ref D),some (.int T.lo),some (.int T.hi),some (.int T.st),some (.ref d),x8] /\ i <= T.ds.length /\ Ab H H' /\ H' d = some (.frz o (.dK kvs)) /\ kvs.length <= 5 /\ TailsAt p H' T (T.ds.length - i) kvs) ⟨_,d0,o0,_,rfl,Nat.zero_le _,s3,kd0,by show 1 <= 5; decide,ta0⟩ (fun i σ H' hi h => ?_) fun σ H' h => ?_⟩
  ·obtain ⟨x8,d,o,kvs,rfl,hi',s',kd,l5,ta⟩ := h
   have hi2 : i < T.ds.length := by rw [List.length_map] at hi; omega
   refine ⟨p,T,T.ds.length - (i + 1),o,kvs,fl,by rw [List.length_map]; omega,by omega,Aa.ev (Ev.same s') _ _ r,kd,l5,by rw [show T.ds.length - (i + 1) + 1 = T.ds.length - i by omega]; exact ta,fun d' H4 o' kvs' s4 kd' l5' ta' => ⟨_,d',o',kvs',rfl,by omega,s'.trans s4,kd',l5',ta'⟩⟩
  ·obtain ⟨x8,d,o,kvs,rfl,hi',s',kd,l5,ta⟩ := h
   have e0 : T.ds.length - ((T.ds.map V.int).length : Int).toNat = 0 := by rw [List.length_map]; omega
   rw [e0] at ta
   have ne : kvs ≠ [] := fun z => by
    obtain ⟨q,hq,_⟩ := ta.all 0 (by unfold DN; split <;> first | rfl | exact List.mem_cons_self)
    rw [z] at hq; cases hq
   have h0 := fl.s0
   have h4 := fl.s4
   refine ⟨d,o,kvs,rfl,kd,J7 (fun j zs H'' => Ab H' H'' /\ ∃ fs : List (Int × List PyData),Ac p H'' (fs.map fun q => .tuple (.int q.1 :: q.2)) zs /\ fs.length = j /\ ∀ k q0,k < j -> kvs[k]? = some q0 -> ∃ fq,fs[k]? = some fq /\ F2 p H' T 0 (fun b f => f - b * T.st) (fun ps => ps) q0 fq) (by omega) ⟨Ab.refl _,[],.nil,rfl,(fun k _ h => absurd h (Nat.not_lt_zero k))⟩ (fun j zs H'' h => by obtain ⟨_,fs,rs,lf,_⟩ := h; rw [<- rs.len,List.length_map,lf]; exact Nat.le_refl _) (fun j zs H'' h => h.1 _ _ kd) (fun j q0 zs H'' T' hq h hT => ?_) fun zs H'' h => ?_⟩
   ·obtain ⟨s3,fs,rs,lf,hfs⟩ := h
    obtain ⟨b,f,ps,eb,rq,ot⟩ := ta.one q0 (List.mem_of_getElem? hq)
    obtain ⟨kk,y⟩ := q0
    have eb' : kk = .inl b := eb
    subst eb'
    obtain ⟨l,bb,ey,hl0,hbb0⟩ := Aa.tailShape (Aa.ev (Ev.same s3) _ _ rq)
    replace ey : y = .ref l := ey
    subst ey
    have sT := Ab.new (o := .tup [.int b,.ref l]) hT
    have s4 := s3.trans sT
    have hl := sT _ _ hl0
    have hbb := sT _ _ hbb0
    refine ⟨T',_,rfl,Ad.of Ai,rfl,_,_,rfl,_,_,rfl,l,_,rfl,Ad.of hl,rfl,_,_,rfl,_,_,rfl,rfl,rfl,⟨rfl,trivial⟩,fun _ => ?_,fun z => by cases z⟩
    refine ⟨.inr ⟨Int.lt_of_lt_of_le (by decide) h0,Int.lt_of_le_of_lt h4 (by decide)⟩,fun t8 H8 s8 k8 => ?_⟩
    refine ⟨s4.trans s8,fs ++ [(f - b * T.st,[AH ps])],?_,by rw [List.length_append,lf]; rfl,fun k q1 hk hq1 => ?_⟩
    ·rw [List.map_append]
     exact Ac.snoc (Ac.ev (Ev.same (sT.trans s8)) _ _ rs) (Aa.tup k8 (.cons Aa.int (.cons (Aa.row (s8 _ _ hbb)) .nil)))
    ·by_cases z : k < j
     ·obtain ⟨fq,h1,h2⟩ := hfs k q1 z hq1
      exact ⟨fq,by rw [List.getElem?_append_left (by omega)]; exact h1,h2⟩
     ·obtain rfl : k = j := by omega
      rw [hq] at hq1
      cases hq1
      exact ⟨_,by rw [List.getElem?_append_right (by omega),lf,Nat.sub_self]; rfl,b,f,ps,rfl,rq,ot,rfl⟩
   ·obtain ⟨s3,fs,rs,lf,hfs⟩ := h
    intro L hL
    have nL := Ab.new (o := .lst zs) hL
    have rsL := Ac.ev (Ev.same (p := p) nL) _ _ rs
    have row : ∀ fq ∈ fs,∃ q0 ∈ kvs,F2 p H' T 0 (fun b f => f - b * T.st) (fun ps => ps) q0 fq := fun fq hfq => by
     obtain ⟨k,hk⟩ := List.getElem?_of_mem hfq
     have hk' := (List.getElem?_eq_some_iff.mp hk).1
     obtain ⟨fq',h1,h2⟩ := hfs k kvs[k] (by omega) (List.getElem?_eq_getElem (by omega))
     rw [hk] at h1; cases h1
     exact ⟨_,List.getElem_mem _,h2⟩
    refine ⟨p,L,fs,zs,rfl,Ai,rsL,fun z => ne (List.eq_nil_of_length_eq_zero (by rw [z] at lf; exact lf.symm)),fun q1 h1 q2 h2 => ?_,fun i' fq v hfq hv top => ?_⟩
    ·obtain ⟨_,_,b1,f1,ps1,_,_,_,e1⟩ := row q1 h1
     obtain ⟨_,_,b2,f2,ps2,_,_,_,e2⟩ := row q2 h2
     rw [e1,e2]
     exact .cons (.row _ _) .nil
    ·obtain ⟨q0,m0,b,f,ps,eb,rq,ot,rfl⟩ := row fq (List.mem_of_getElem? hfq)
     obtain ⟨v',hv',rv⟩ := rsL.get (i := i') (d := Ch (f - b * T.st) ps) (by rw [List.getElem?_map,hfq]; rfl)
     rw [hv] at hv'; cases hv'
     refine q _ _ _ ps (s'.trans (s3.trans nL)) rv (O1 ta ot fun x' f' ps' o1 ⟨q1,m1,e1,r1⟩ => ?_)
     obtain ⟨k,hk⟩ := List.getElem?_of_mem m1
     have hk' := (List.getElem?_eq_some_iff.mp hk).1
     obtain ⟨fq',g1,b2,f2,ps2,e2,r2,o2,rfl⟩ := hfs k q1 hk' hk
     have eb2 : b2 = x' := by rw [e1] at e2; injection e2 with e2; exact e2.symm
     subst eb2
     have ef := KY r1 r2
     subst ef
     exact top _ (List.mem_of_getElem? g1)
 ·exact h.elim
end
end MF
end
section
namespace MF
open PySem PySem.Spec PyProof.Rows L2
variable {p : Addr} {H : Hp}
theorem Aa.intE {a b : Int} (h : b = a) : Aa p H (.int a) (.int b) := by subst h; exact Aa.int
theorem Aa.pair {q : Nat × Nat} {v : V} (r : Aa p H (pD q) v) : ∃ A,v = .ref A /\ H A = some (.tup [.int q.1,.int q.2]) := by
 obtain ⟨A,xs,rfl,hA,rs⟩ := Aa.shape r
 obtain ⟨x,y,rfl,rx,ry⟩ := Ac.two rs
 unfold Aa at rx ry
 subst rx ry
 exact ⟨A,rfl,hA⟩
def E7 : Sp := fun vs H Q _ => match vs with | [v,u] => ∃ p T f l,TM.ok T /\ Aa p H T.d v /\ Aa p H (pD (f,l)) u /\ f <= l /\ l < T.ds.length /\ ∀ H',Ab H H' -> Q (.bl (Bv T f l)) H' | _ => False
def Ih : Sp := fun vs H Q _ => match vs with | [v] => ∃ p T,TM.ok T /\ Aa p H T.d v /\ ret H Q p (DL (AO T)) | _ => False
def E8 : Sp := fun vs H Q _ => match vs with | [v] => ∃ p T,Bw T /\ Aa p H T.d v /\ (AO T ≠ none -> ∀ H',Ab H H' -> Q .non H') /\ (AO T = none -> ∀ f ps H',Cp T f ps -> Ab H H' -> Q (.int f) H') | _ => False
section
variable {P : Program} {w : World} {K : PySem.W.Frag} {mg : Str -> Option Value} {base : Heap}
theorem sc_is_too_much : Aw ["terms","stretch","caps","coals","draws","low","high","start","first","last","ahead","most"] ["terms","stretch"] (Ap s_is_too_much) := Ax
theorem QO (F : Df K mg "is_too_much" s_is_too_much ["terms","stretch"]) (T : Tx mg)  : Fn P w K mg base 1 "is_too_much" ["terms","stretch"] E7 := by
 refine F.fn sc_is_too_much (fun vs H Q E h => ?_) (fun f cdv A outer s H vs Q E hr h => ?_)
 ·unfold E7 at h; split at h; rfl; exact h.elim
 refine ⟨_,(Aj (A7 (cx 0 (by rfl)) (AD K (n := 4) (Ah (Ak 2 sc_is_too_much.nd (by rfl)) (Ah (Ak 3 sc_is_too_much.nd (by rfl)) (Ah (Ak 4 sc_is_too_much.nd (by rfl)) (Ah (AD K (n := 3) (Ah (Ak 5 sc_is_too_much.nd (by rfl)) (Ah (Ak 6 sc_is_too_much.nd (by rfl)) (Ah (Ak 7 sc_is_too_much.nd (by rfl)) AC (by rfl)) (by rfl)) (by rfl)) (by rfl) (by rfl) (by rfl) (by rfl)) AC (by rfl)) (by rfl)) (by rfl)) (by rfl)) (by rfl) (by rfl) (by rfl) (by rfl)) (by rfl) (by rfl) (by rfl)) (Aj (A7 (cx 1 (by rfl)) (AD K (n := 2) (Ah (Ak 8 sc_is_too_much.nd (by rfl)) (Ah (Ak 9 sc_is_too_much.nd (by rfl)) AC (by rfl)) (by rfl)) (by rfl) (by rfl) (by rfl) (by rfl)) (by rfl) (by rfl) (by rfl)) (Aj (AE (i := 10) sc_is_too_much.nd rfl (AA (by rfl)) (DF (AW Ct (cx 8 (by rfl)) Af (AQ _)) (cx 7 (by rfl)) (cx 6 (by rfl))) (by rfl) (AR (by rfl))) (Aj (AE (i := 11) sc_is_too_much.nd rfl (AA (by rfl)) (AB (DJ rfl) rfl T.b_sum boot_sum (Aq (A4 ["row"] [none] rfl (Bz K (De s_tup (cx 2 (by rfl)) (Cm (cx 8 (by rfl))) (Cm (Av A8 (cx 9 (by rfl)) Af))) (by rfl)) (AG.of rfl) (fun _ _ _ _ => (Ak 0 (Az (by rfl)) (by rfl))) (fun _ _ _ _ => A3) (fun _ _ _ _ => (AB (DJ rfl) rfl T.b_sum boot_sum (Aq (cx 0 (by rfl)) (by rfl)) (by decide) (by decide) (by rfl) (by rfl))) (by intro _; rfl)) (by rfl)) (by decide) (by decide) (by rfl) (by rfl)) (by rfl) (AR (by rfl))) (Al (Ao (BM DE (Av A8 (cx 10 (by rfl)) (cx 11 (by rfl))) (Av A8 (AB (DJ rfl) rfl T.b_sum boot_sum (Aq (De s_tup (cx 4 (by rfl)) (Cm (cx 8 (by rfl))) (Cm (Av A8 (cx 9 (by rfl)) Af))) (by rfl)) (by decide) (by decide) (by rfl) (by rfl)) (cx 5 (by rfl))) (AQ _)))))))),?_⟩
 unfold E7 at h
 split at h
 ·rename_i v u
  obtain ⟨p,T,f,l,ok,r,ru,hfl,hl,q⟩ := h
  obtain ⟨A,C,B,D,M,xc,rfl,hA,hC,rc,hB,hD,hM⟩ := Aa.terms r
  obtain ⟨U,rfl,hU⟩ := Aa.pair ru
  have l8 := ok.l8
  have lc := ok.lc
  have lx := rc.len
  rw [List.length_map] at lx
  refine ⟨A,_,rfl,Ad.of hA,rfl,_,_,rfl,_,_,rfl,_,_,rfl,_,_,rfl,M,_,rfl,Ad.of hM,rfl,_,_,rfl,_,_,rfl,_,_,rfl,rfl,rfl,?_⟩
  refine ⟨U,_,rfl,Ad.of hU,rfl,_,_,rfl,_,_,rfl,rfl,rfl,⟨fun c => ?_,fun c => ?_⟩⟩
  ·have ea : (if f = 0 then T.st else T.hi) = T.st := by
    rw [Dd] at c
    have : (f : Int) = 0 := by simpa using c
    rw [if_pos (by omega)]
   refine ⟨(f : Int),rfl,(l : Int) + 1,rfl,C,xc,rfl,hC,fun R H1 s1 k1 => ?_⟩
   rw [FZ hfl (by omega)] at k1
   have rp := Ac.part (Ac.ev (Ev.same s1) _ _ rc) f l
   rw [Eh] at rp
   have lp := JX (xs := T.cs) hfl (by omega)
   have lq := rp.len
   rw [List.length_map] at lq
   refine ⟨R,rfl,⟨_,Ad.of k1⟩,BO (xs := part xc f l) (fun i ys H' => Ab H1 H' /\ ys = (((part T.cs f l).take i).map List.sum).map V.int) (by omega) ⟨Ab.refl _,rfl⟩ (fun i ys H' h => by rw [h.2,List.length_map,List.length_map,List.length_take]; omega) (fun i ys H' _ h => Ad.of (h.1 _ _ k1)) (fun i x ys H' hx h => ?_) fun ys H2 h => ?_⟩
   ·obtain ⟨r',hr',rr⟩ := Ac.mapGot rp hx
    obtain ⟨ra,rfl,hra⟩ := Aa.ofRow' rr
    refine ⟨trivial,fun _ => ⟨ra,r',rfl,.inr (h.1 _ _ hra),h.1,?_⟩,fun z => by cases z⟩
    rw [A2 hr',List.map_append,List.map_append,h.2]; rfl
   ·intro m hm
    have s2 := s1.trans (h.1.trans (Ab.new (o := .lst ys) hm))
    refine ⟨m,(part T.cs f l).map List.sum,rfl,.inl ?_,?_⟩
    ·rw [Ai,h.2,List.take_of_length_le (by omega)]
    refine ⟨(f : Int),rfl,(l : Int) + 1,rfl,D,T.ds.map V.int,rfl,s2 _ _ hD,fun R2 H3 s3 k3 => ?_⟩
    rw [FZ hfl (by rw [List.length_map]; exact hl),Eh] at k3
    refine ⟨R2,part T.ds f l,rfl,.inr k3,?_⟩
    have := q H3 (s2.trans s3)
    unfold Bv at this
    rw [ea] at this
    exact this
  ·have ea : (if f = 0 then T.st else T.hi) = T.hi := by
    rw [Dd] at c
    have : (f : Int) ≠ 0 := by simpa using c
    rw [if_neg (by omega)]
   refine ⟨(f : Int),rfl,(l : Int) + 1,rfl,C,xc,rfl,hC,fun R H1 s1 k1 => ?_⟩
   rw [FZ hfl (by omega)] at k1
   have rp := Ac.part (Ac.ev (Ev.same s1) _ _ rc) f l
   rw [Eh] at rp
   have lp := JX (xs := T.cs) hfl (by omega)
   have lq := rp.len
   rw [List.length_map] at lq
   refine ⟨R,rfl,⟨_,Ad.of k1⟩,BO (xs := part xc f l) (fun i ys H' => Ab H1 H' /\ ys = (((part T.cs f l).take i).map List.sum).map V.int) (by omega) ⟨Ab.refl _,rfl⟩ (fun i ys H' h => by rw [h.2,List.length_map,List.length_map,List.length_take]; omega) (fun i ys H' _ h => Ad.of (h.1 _ _ k1)) (fun i x ys H' hx h => ?_) fun ys H2 h => ?_⟩
   ·obtain ⟨r',hr',rr⟩ := Ac.mapGot rp hx
    obtain ⟨ra,rfl,hra⟩ := Aa.ofRow' rr
    refine ⟨trivial,fun _ => ⟨ra,r',rfl,.inr (h.1 _ _ hra),h.1,?_⟩,fun z => by cases z⟩
    rw [A2 hr',List.map_append,List.map_append,h.2]; rfl
   ·intro m hm
    have s2 := s1.trans (h.1.trans (Ab.new (o := .lst ys) hm))
    refine ⟨m,(part T.cs f l).map List.sum,rfl,.inl ?_,?_⟩
    ·rw [Ai,h.2,List.take_of_length_le (by omega)]
    refine ⟨(f : Int),rfl,(l : Int) + 1,rfl,D,T.ds.map V.int,rfl,s2 _ _ hD,fun R2 H3 s3 k3 => ?_⟩
    rw [FZ hfl (by rw [List.length_map]; exact hl),Eh] at k3
    refine ⟨R2,part T.ds f l,rfl,.inr k3,?_⟩
    have := q H3 (s2.trans s3)
    unfold Bv at this
    rw [ea] at this
    exact this
 ·exact h.elim
theorem sc_least_stretch : Aw ["terms","caps","coals","draws","main","hours","stretches","found"] ["terms"] (Ap s_least_stretch) := Ax
abbrev E9 (P : Program) (w : World) (K : PySem.W.Frag) (mg : Str -> Option Value) (base : Heap) : Prop := Fn P w K mg base 2 "least_stretch" ["terms"] Ih
theorem QP (F : Df K mg "least_stretch" s_least_stretch ["terms"]) (T : Tx mg) (D_is_too_much : Fn P w K mg base 1 "is_too_much" ["terms","stretch"] E7) : E9 P w K mg base := by
 refine F.fn sc_least_stretch (fun vs H Q E h => ?_) (fun f cdv A outer s H vs Q E hr h => ?_)
 ·unfold Ih at h; split at h; rfl; exact h.elim
 refine ⟨_,(Aj (A7 (cx 0 (by rfl)) (AD K (n := 4) (Ah (Ak 1 sc_least_stretch.nd (by rfl)) (Ah (Ak 2 sc_least_stretch.nd (by rfl)) (Ah (Ak 3 sc_least_stretch.nd (by rfl)) (Ah (Ak 4 sc_least_stretch.nd (by rfl)) AC (by rfl)) (by rfl)) (by rfl)) (by rfl)) (by rfl) (by rfl) (by rfl) (by rfl)) (by rfl) (by rfl) (by rfl)) (Aj (AE (i := 5) sc_least_stretch.nd rfl (AA (by rfl)) (AB (Bb K (by rfl)) rfl T.b_len PySem.boot_len (Aq (cx 3 (by rfl)) (by rfl)) (by decide) (by decide) (by rfl) (by rfl)) (by rfl) (AR (by rfl))) (Aj (HJ (i := 6) ["first","last","hours"] [none,none,some 5] sc_least_stretch.nd rfl (AA (by rfl)) rfl (BU rfl T.b_range (Aq (cx 5 (by rfl)) (by rfl)) (by rfl)) (AG.of rfl) (fun _ _ _ _ => (Ak 0 (Az (by rfl)) (by rfl))) (fun _ _ _ _ => A3) (fun _ _ _ _ => (IH rfl T.b_range (As (cx 0 (by rfl)) (cx 2 (by rfl)) (by rfl)) (by rfl) (by rfl))) (fun _ _ _ _ => (Ak 1 (Az (by rfl)) (by rfl))) (fun _ _ _ _ => A3) (fun _ _ _ _ => (Bs (As (cx 0 (by rfl)) (cx 1 (by rfl)) (by rfl)))) (by rfl) (AR (by rfl)) (by intro _; rfl) (by intro _ _; rfl)) (Aj (Ht (i := 7) ["stretch","terms"] [none,some 0] sc_least_stretch.nd rfl (AA (by rfl)) rfl (Ea K (cx 6 (by rfl)) (by rfl)) (AG.of rfl) (fun _ _ _ _ => (Ak 0 (Az (by rfl)) (by rfl))) (fun _ _ _ _ => (CG (BG (Ag D_is_too_much (hr.mono (by decide)) rfl (As (cx 1 (by rfl)) (cx 0 (by rfl)) (by rfl)) (by decide) (by rfl) (by rfl)) (by intro _; rfl)))) (fun _ _ _ _ => (cx 0 (by rfl))) (by rfl) (AR (by rfl)) (by intro _; rfl)) (Al (Ao (DF (N0 (cx 7 (by rfl)) (by intro _; rfl)) (AF (BY K (by rfl)) (cx 7 (by rfl)) Af (fun _ _ => rfl)) Ck))))))),?_⟩
 unfold Ih at h
 split at h
 ·rename_i v
  obtain ⟨p,T,ok,r,q⟩ := h
  obtain ⟨A,C,B,D,M,xc,rfl,hA,hC,rc,hB,hD,hM⟩ := Aa.terms r
  have l8 := ok.l8
  refine ⟨A,_,rfl,Ad.of hA,rfl,_,_,rfl,_,_,rfl,_,_,rfl,_,_,rfl,rfl,?_⟩
  refine ⟨D,_,rfl,.inr (Ad.of hD),?_⟩
  rw [List.length_map]
  refine ⟨_,rfl,by omega,by omega,JW (n := T.ds.length) (fun i zs H' => Ab H H' /\ Ac p H' ((B7 T.ds.length i).map pD) zs) ⟨Ab.refl _,.nil⟩ (fun i zs H1 hi h => ?_) fun zs H1 h => ?_⟩
  ·refine ⟨⟨rfl,trivial⟩,fun _ => ?_,fun z => by cases z⟩
   have lz := h.2.len
   rw [List.length_map] at lz
   have ls := J0 (n := T.ds.length) (k := i)
   have lm : T.ds.length * i <= 8 * 8 := Nat.mul_le_mul l8 (by omega)
   have e0 : ((T.ds.length : Int) - (0 + (i : Int))).toNat = T.ds.length - i := by omega
   refine ⟨_,_,rfl,⟨by omega,by omega,by omega,by omega⟩,?_⟩
   rw [e0]
   refine JV (n := T.ds.length - i) (fun j ys H2 => Ab H H2 /\ Ac p H2 ((B7 T.ds.length i ++ Cz i j).map pD) ys /\ j <= 8) ⟨h.1,?_,Nat.zero_le _⟩ (fun j ys H2 h => ?_) (fun j ys H2 hj h2 => ?_) fun ys H2 h2 => ?_
   ·have e1 : Cz i 0 = [] := rfl
    rw [e1,List.append_nil]; exact h.2
   ·have h3 := h.2.1.len
    rw [List.length_map,List.length_append,JY] at h3
    have := h.2.2
    omega
   ·refine ⟨⟨rfl,rfl,trivial⟩,fun _ t ht => ?_,fun z => by cases z⟩
    have nt := Ab.new (o := .tup [.int (0 + (i : Int)),.int (0 + (i : Int) + (j : Int))]) ht
    refine ⟨h2.1.trans nt,?_,by omega⟩
    rw [N6,<- List.append_assoc,List.map_append]
    exact Ac.snoc (Ac.ev (Ev.same nt) _ _ h2.2.1) (Aa.tup Ai (.cons (Aa.intE (by simp)) (.cons (Aa.intE (by simp)) .nil)))
   ·refine ⟨h2.1,?_⟩
    rw [JZ]
    exact h2.2.1
  ·intro m hm
   have s1 := h.1.trans (Ab.new (o := .lst zs) hm)
   have r1 := Ac.ev (Ev.new (p := p) (o := .lst zs) hm) _ _ h.2
   have lz := h.2.len
   rw [List.length_map] at lz
   have ls := J0 (n := T.ds.length) (k := T.ds.length)
   have lm : T.ds.length * T.ds.length <= 8 * 8 := Nat.mul_le_mul l8 l8
   refine ⟨m,rfl,⟨zs,Am.of Ai⟩,Jt (xs := zs) (fun i ys H' => Ab (upd H1 m (.lst zs)) H' /\ Ac p H' ((((B7 T.ds.length T.ds.length).take i).filter fun q => Bv T q.1 q.2).map pD) ys) (by omega) ⟨Ab.refl _,.nil⟩ (fun i ys H' h => ?_) (fun i ys H' _ h => Am.of (h.1 _ _ Ai)) (fun i x ys H' hx h => ?_) fun ys H2 h2 => ?_⟩
   ·rw [<- h.2.len,List.length_map]
    exact Nat.le_trans (List.length_filter_le _ _) (by rw [List.length_take]; omega)
   ·obtain ⟨⟨f,l⟩,hf,rd⟩ := Ac.mapGot r1 hx
    obtain ⟨hfl,hl⟩ := HK (Nat.le_refl _) _ (List.mem_of_getElem? hf)
    refine ⟨⟨rfl,trivial⟩,p,T,f,l,ok,Aa.ev (Ev.same (s1.trans h.1)) _ _ r,Aa.ev (Ev.same h.1) _ _ rd,hfl,hl,fun H3 s3 => ⟨fun c => ?_,fun c => ?_⟩⟩
    ·refine ⟨h.1.trans s3,?_⟩
     rw [A2 hf,List.filter_append,List.filter_cons_of_pos (by exact c),List.map_append]
     exact Ac.snoc (Ac.ev (Ev.same s3) _ _ h.2) (Aa.ev (Ev.same (h.1.trans s3)) _ _ rd)
    ·refine ⟨h.1.trans s3,?_⟩
     rw [A2 hf,List.filter_append,List.filter_cons_of_neg (by rw [show Bv T (f,l).1 (f,l).2 = false from c]; decide),List.filter_nil,List.append_nil]
     exact Ac.ev (Ev.same s3) _ _ h.2
   ·intro m2 hm2
    rw [List.take_of_length_le (by omega)] at h2
    have s2 := s1.trans (h2.1.trans (Ab.new (o := .lst ys) hm2))
    have r2 := Ac.ev (Ev.new (p := p) (o := .lst ys) hm2) _ _ h2.2
    refine ⟨m2,ys,rfl,Ai,⟨fun c => ?_,fun c => ?_⟩⟩
    ·cases ys with
     | nil => cases c
     | cons y ys =>
      refine ⟨m2,_,0,y,rfl,rfl,Am.of Ai,Dg (j := 0) rfl,q _ _ s2 ?_⟩
      have eq : Dm T = (B7 T.ds.length T.ds.length).filter fun q => Bv T q.1 q.2 := rfl
      unfold AO
      rw [<- eq] at r2
      cases z : Dm T with
      | nil => rw [z] at r2; have := r2.len; cases this
      | cons a l =>
       rw [z] at r2
       unfold Ac at r2
       obtain ⟨x,t,e,rx,_⟩ := r2
       cases e
       exact rx
    ·cases ys with
     | cons y ys => cases c
     | nil =>
      refine q _ _ s2 ?_
      have eq : Dm T = (B7 T.ds.length T.ds.length).filter fun q => Bv T q.1 q.2 := rfl
      unfold AO
      rw [<- eq] at r2
      cases z : Dm T with
      | nil => exact Aa.non
      | cons a l => rw [z] at r2; have := r2.len; cases this
 ·exact h.elim
theorem sc_coal_under : Aw ["terms","floor","prices"] ["terms"] (Ap s_coal_under) := Ax
theorem QQ (F : Df K mg "coal_under" s_coal_under ["terms"]) (T : Tx mg) (D_highest_floor : Fn P w K mg base 3 "highest_floor" ["terms"] E6) (D_least_stretch : E9 P w K mg base) : Fn P w K mg base 4 "coal_under" ["terms"] E8 := by
 refine F.fn sc_coal_under (fun vs H Q E h => ?_) (fun f cdv A outer s H vs Q E hr h => ?_)
 ·unfold E8 at h; split at h; rfl; exact h.elim
 refine ⟨_,(Aj (A1 (AW Fu (Ag D_least_stretch (hr.mono (by decide)) rfl (Aq (cx 0 (by rfl)) (by rfl)) (by decide) (by rfl) (by rfl)) Ck (AQ _)) (Al (Ao Ck)) AY) (Aj (A7 (Ag D_highest_floor (hr.mono (by decide)) rfl (Aq (cx 0 (by rfl)) (by rfl)) (by decide) (by rfl) (by rfl)) (AD K (n := 2) (Ah (Ak 1 sc_coal_under.nd (by rfl)) (Ah (Ak 2 sc_coal_under.nd (by rfl)) AC (by rfl)) (by rfl)) (by rfl) (by rfl) (by rfl) (by rfl)) (by rfl) (by rfl) (by rfl)) (Al (Ao (cx 1 (by rfl)))))),?_⟩
 unfold E8 at h
 split at h
 ·rename_i v
  obtain ⟨p,T,fl,r,q1,q2⟩ := h
  refine ⟨p,T,fl.ok,r,fun u H1 s1 ru => ?_⟩
  cases z : AO T with
  | none =>
   rw [z] at ru
   have eu : u = .non := by unfold DL at ru; unfold Aa at ru; exact ru
   subst eu
   refine ⟨rfl,⟨fun c => by simp at c,fun _ => ?_⟩⟩
   refine ⟨p,T,fl,Aa.ev (Ev.same s1) _ _ r,fun y H2 f ps s2 ry hf => ?_⟩
   obtain ⟨a,b,rfl,ha,hb⟩ := Aa.tailShape ry
   exact ⟨a,_,rfl,Ad.of ha,rfl,_,_,rfl,_,_,rfl,rfl,q2 z f ps H2 hf (s1.trans s2)⟩
  | some s0 =>
   rw [z] at ru
   have nu : u ≠ .non := by
    obtain ⟨A,eA,_⟩ := Aa.pair ru
    rw [eA]; intro e; cases e
   refine ⟨rfl,⟨fun _ => q1 (by rw [z]; simp) H1 s1,fun c => ?_⟩⟩
   simp [nu] at c
 ·exact h.elim
end
end MF
end
section
namespace MF
open PySem PySem.Spec PyProof.Rows L2
variable {H : Hp} {G F : List (List Int)} {p : Addr} {S : SY} {k i : Nat}
theorem QR {α : Type} (n : Nat) (x : α) : (List.replicate n [x]).flatten = List.replicate n x := by
 induction n with
 | zero => rfl
 | succ n ih => rw [List.replicate_succ,List.flatten_cons,ih,List.replicate_succ]; rfl
def Feed (H : Hp) (G : List (List Int)) (f : V) : Prop := ∃ A xs,f = .ref A /\ xs.length = G.length /\
 ((H A = some (.tup xs) /\ ∀ (i : Nat) r x,G[i]? = some r -> xs[i]? = some x -> ∃ a,x = .ref a /\ H a = some (.tup (r.map V.int))) \/ (H A = some (.lst xs) /\ ∀ (i : Nat) r x,G[i]? = some r -> xs[i]? = some x -> ∃ a,x = .ref a /\ H a = some (.lst (r.map V.int))))
theorem Feed.same {H' : Hp} {f : V} (x : Feed H G f) (s : Ab H H') : Feed H' G f := by
 obtain ⟨A,xs,e,hl,h⟩ := x
 refine ⟨A,xs,e,hl,h.elim (fun h => .inl ⟨s _ _ h.1,fun i r x hr hx => ?_⟩) fun h => .inr ⟨s _ _ h.1,fun i r x hr hx => ?_⟩⟩
 ·obtain ⟨a,e,k⟩ := h.2 i r x hr hx; exact ⟨a,e,s _ _ k⟩
 ·obtain ⟨a,e,k⟩ := h.2 i r x hr hx; exact ⟨a,e,s _ _ k⟩
theorem Aa.firing {v : V} (r : Aa p H (FD F) v) : ∃ A xs,v = .ref A /\ H A = some (.tup xs) /\ Ac p H (F.map AH) xs := Aa.shape r
theorem Aa.ofRow {p : Addr} {H : Hp} {r : List Int} {v : V} (h : Aa p H (AH r) v) : ∃ A,v = .ref A /\ H A = some (.tup (r.map V.int)) := by
 obtain ⟨A,xs,rfl,hA,rs⟩ := Aa.shape h
 rw [Ac.ints rs] at hA
 exact ⟨A,rfl,hA⟩
theorem Feed.of {f : V} (r : Aa p H (FD G) f) : Feed H G f := by
 obtain ⟨A,xs,rfl,hA,rs⟩ := Aa.firing r
 have l := rs.len
 rw [List.length_map] at l
 refine ⟨A,xs,rfl,l.symm,.inl ⟨hA,fun i r x hr hx => ?_⟩⟩
 obtain ⟨r',hr',rr⟩ := Ac.mapGot rs hx
 rw [hr] at hr'
 cases hr'
 exact Aa.ofRow rr
def CN (P : PL) (S : SY) (F : List (List Int)) (k : Nat) : List Int := (List.range k).map fun j => AN P S F (j + 1)
theorem KZ {P : PL} : CN P S F (k + 1) = CN P S F k ++ [AN P S F (k + 1)] := by unfold CN; rw [List.range_succ,List.map_append]; rfl
theorem Ii {P : PL} : (CN P S F k).length = k := by unfold CN; simp
theorem Gw {P : PL} {r d : Int} (hr : made F i = r) (hd : Cy P S i = d) : (if AN P S F i + r - d < P.hi then AN P S F i + r - d else P.hi) = AN P S F (i + 1) := by
 rw [Ee]
 unfold Bp CI
 rw [hr,hd]
 split <;> split <;> omega
theorem Gx {P : PL} (h : P.lo <= P.hi) : AN P S F (i + 1) < P.lo ↔ Bp P S F i < P.lo := by
 rw [Ee]
 unfold CI
 split <;> omega
def Ij (P : PL) (S : SY) (F : List (List Int)) : Prop := ∀ i,i < S.ex.length -> P.lo <= Bp P S F i
def Gy : Sp := fun vs H Q _ => match vs with | [.ref m,d,f] => ∃ p P S F,P.lo <= P.hi /\ S.ex.length <= 8 /\ F.length = S.ex.length /\ H m = some (.tup [.int P.lo,.int P.hi,.int P.st]) /\ Aa p H (HE P S) d /\ Feed H F f /\ ∀ R H' k s,EO P S F k s -> Ab H H' -> H R = none -> H' R = some (.lst ((CN P S F k).map V.int)) -> Q (.ref R) H' | _ => False
def Gz : Sp := fun vs H Q _ => match vs with | [v,u,f] => ∃ p P S F,PL.ok P /\ SY.ok S P.bs.length /\ F.length = S.ex.length /\ Aa p H P.d v /\ Aa p H S.d u /\ Feed H F f /\ ∀ b H',(b = true ↔ Ij P S F) -> Ab H H' -> Q (.bl b) H' | _ => False
def GB : Sp := fun vs H Q _ => match vs with | [.ref p,.int m,.int h] => Bc p H /\ 1 <= m /\ m <= 4 /\ 1 <= h /\ h <= 8 /\ ∀ t H' P S v u,PL.ok P -> SY.ok S P.bs.length -> Ij P S (caps P S) -> H' t = some (.tup [v,u]) -> Aa p H' P.d v -> Aa p H' S.d u -> Ev p H H' -> Bc p H' -> Q (.ref t) H' | _ => False
theorem CMul.of_bounds {i j : Int} (h0 : 0 <= j) (h1 : j < 100) : CMul i j := .inr ⟨by omega,by omega⟩
theorem QS {P : PL} (ok : P.ok) (so : S.ok P.bs.length) (he : P.es = []) (hx : ∀ a ∈ S.ex,a = 0) (hF : F = caps P S := by rfl) : Ij P S F := by
 subst hF
 have hd : ∀ i,i < S.ex.length -> Cy P S i = 0 := fun i hi => by
  have z : S.ex[i]? = some S.ex[i] := List.getElem?_eq_getElem hi
  rw [Eg (HG z),he,hx _ (List.getElem_mem hi)]; rfl
 have hm : ∀ i,i < S.ex.length -> 0 <= made (caps P S) i := fun i hi => by
  have hg := Ed (P := P) hi
  rw [Ef hg]
  have hb := (EM (S := S) ok _ (List.mem_of_getElem? hg)).1
  have : ∀ l : List Int,(∀ a ∈ l,0 <= a /\ a <= 9) -> 0 <= l.sum := fun l => by
   induction l with
   | nil => intro _; exact Int.le_refl _
   | cons a l ih =>
    intro h
    have h1 := h a List.mem_cons_self
    have h2 := ih fun x hx => h x (List.mem_cons_of_mem _ hx)
    rw [List.sum_cons]; omega
  exact this _ hb
 have hl : ∀ i,i <= S.ex.length -> P.lo <= AN P S (caps P S) i := fun i => by
  induction i with
  | zero => intro _; exact ok.ls
  | succ i ih =>
   intro hi
   have h0 := ih (by omega)
   have h1 := hd i (by omega)
   have h2 := hm i (by omega)
   have h3 := ok.ls
   have h4 := ok.sh
   rw [Ee]
   unfold Bp CI
   split <;> omega
 intro i hi
 have h0 := hl i (by omega)
 have h1 := hd i hi
 have h2 := hm i hi
 unfold Bp
 omega
theorem QT {l : List Int} {k : Nat} {x : Int} (h : l[k]? = some x) : (l.take (k + 1)).sum = (l.take k).sum + x := by rw [A2 h,List.sum_append,List.sum_cons,List.sum_nil]; omega
section
variable {P : Program} {w : World} {K : PySem.W.Frag} {mg : Str -> Option Value} {base : Heap}
theorem sc__law_draws : Aw ["_law_plant_here","_law_story_here","_law_found","_law_hour","_law_extra","_law_draw_here","_law_first","_law_every"] ["_law_plant_here","_law_story_here"] (Ap s__law_draws) := Ax
theorem QU (F : Df K mg "_law_draws" s__law_draws ["_law_plant_here","_law_story_here"]) (T : Tx mg)  : Fn P w K mg base 1 "_law_draws" ["_law_plant_here","_law_story_here"] Gs := by
 refine F.fn sc__law_draws (fun vs H Q E h => ?_) (fun f cdv A outer s H vs Q E hr h => ?_)
 ·unfold Gs at h; split at h; rfl; exact h.elim
 refine ⟨_,(Aj (AE (i := 2) sc__law_draws.nd rfl (AA (by rfl)) (BH BV) (by rfl) (AR (by rfl))) (Aj (BK PassesOwn.never rfl (Eb P w K rfl T.b_enumerate (Aq (AF (AV K (by rfl)) (cx 1 (by rfl)) Af (fun _ _ => rfl)) (by rfl)) (by rfl) (by rfl) (by rfl) (by rfl)) (AD K (n := 2) (Ah (Ak 3 sc__law_draws.nd (by rfl)) (Ah (Ak 4 sc__law_draws.nd (by rfl)) AC (by rfl)) (by rfl)) (by rfl) (by rfl) (by rfl) (by rfl)) (Aj (BK PassesOwn.never rfl (Bz K (AF (AV K (by rfl)) (cx 0 (by rfl)) Af (fun _ _ => rfl)) (by rfl)) (AD K (n := 3) (Ah (Ak 5 sc__law_draws.nd (by rfl)) (Ah (Ak 6 sc__law_draws.nd (by rfl)) (Ah (Ak 7 sc__law_draws.nd (by rfl)) AC (by rfl)) (by rfl)) (by rfl)) (by rfl) (by rfl) (by rfl) (by rfl)) (Al (AE (i := 4) sc__law_draws.nd rfl (AA (by rfl)) (Av A8 (cx 4 (by rfl)) (Av CY (cx 5 (by rfl)) (Bi Hd rfl T.b_int L2.boot_int (Aq (BM (DH K (by rfl)) (cx 3 (by rfl)) (Og rfl rfl T.b_list rfl T.b_range (AL (cx 6 (by rfl)) Af (cx 7 (by rfl)) (by rfl)) (by rfl) (by rfl) (by rfl)) (by with_unfolding_all rfl)) (by rfl)) (by decide) (by decide) (by rfl) (by rfl)))) (by rfl) (AR (by rfl)))) (by intro _; rfl)) (Al (Cc (Dh PySem.F.plainAttrs_list PySem.F.slot_list_append PySem.F.type_list_append Di (cx 2 (by rfl)) (Aq (cx 4 (by rfl)) (by rfl)) (by rfl) (by rfl) (by rfl) (by rfl) (by rfl)) (by rfl)))) (by intro _; rfl)) (Al (Ao (Bi (Bu K (by rfl)) rfl T.b_tuple Bn (Aq (cx 2 (by rfl)) (by rfl)) (by decide) (by decide) (by rfl) (by rfl)))))),?_⟩
 unfold Gs at h
 split at h
 ·rename_i v u
  obtain ⟨p,P,S,ok,so,r,ru,q⟩ := h
  obtain ⟨A,B,E,xf,rfl,hA,hB,hE,rf⟩ := Aa.story ru
  obtain ⟨PA,PB,PE,PM,xb,xe,rfl,pA,pB,rb,pE,re,pM⟩ := Aa.plant r
  have x8 := so.x8
  have e4 := ok.e4
  have le := re.len
  rw [List.length_map] at le
  intro R hR
  have s0 : Ab H (upd H R (.lst [])) := Ab.new hR
  refine ⟨A,_,0,.ref B,rfl,rfl,Ad.of (s0 _ _ hA),rfl,B,rfl,⟨_,Ad.of (s0 _ _ hB)⟩,for_enum (xs := S.ex.map V.int) (fun i σ H1 => (∃ y3 y4 y5 y6 y7,σ = [some (.ref PA),some (.ref A),some (.ref R),y3,y4,y5,y6,y7]) /\ Ab H H1 /\ H1 R = some (.lst (((draws P S).take i).map V.int)))
   ⟨⟨_,_,_,_,_,rfl⟩,s0,Ai⟩ (fun i σ H1 h => Ad.of (h.2.1 _ _ hB)) (fun i x σ H1 T hx h hT => ?_) fun σ H1 h => ?_⟩
  ·obtain ⟨⟨y3,y4,y5,y6,y7,rfl⟩,s1,hR1⟩ := h
   rw [List.getElem?_map] at hx
   cases z : S.ex[i]? with
   | none => rw [z] at hx; cases hx
   | some n =>
    rw [z] at hx
    cases hx
    have hi : i < S.ex.length := (List.getElem?_eq_some_iff.mp z).1
    have nT := Ab.new (o := .tup [.int i,.int n]) hT
    have s2 := s1.trans nT
    refine ⟨T,_,rfl,Ad.of Ai,rfl,_,_,rfl,_,_,rfl,rfl,?_⟩
    refine ⟨PA,_,1,.ref PE,rfl,rfl,Ad.of (s2 _ _ pA),rfl,PE,rfl,⟨xe,Ad.of (s2 _ _ pE)⟩,IJ (xs := xe) (fun k σ H2 => (∃ y5 y6 y7,σ = [some (.ref PA),some (.ref A),some (.ref R),some (.int i),some (.int (n + ((P.es.map fun e => drawn e i).take k).sum)),y5,y6,y7]) /\ Ab (upd H1 T (.tup [.int i,.int n])) H2)
     ⟨⟨_,_,_,congrArg (fun z => [some (V.ref PA),some (.ref A),some (.ref R),some (.int i),some (.int z),y5,y6,y7]) (Int.add_zero n).symm⟩,Ab.refl _⟩ (fun k σ H2 _ h => Ad.of (h.2 _ _ (s2 _ _ pE))) (fun k x σ H2 hx h => ?_) fun σ H2 h => ?_⟩
    ·obtain ⟨⟨y5,y6,y7,rfl⟩,s3⟩ := h
     obtain ⟨e,he,rd⟩ := Ac.mapGot re hx
     obtain ⟨o1,o2,o3,o4,o5,o6⟩ := ok.e e (List.mem_of_getElem? he)
     obtain ⟨a,zs,rfl,ha,rz⟩ := Aa.shape (Aa.ev (Ev.same (s2.trans s3)) _ _ rd)
     obtain ⟨w1,w2,w3,rfl,r1,r2,r3⟩ := Ac.three rz
     unfold Aa at r1 r2 r3
     subst r1 r2 r3
     refine ⟨a,_,rfl,Ad.of ha,rfl,_,_,rfl,_,_,rfl,_,_,rfl,rfl,?_⟩
     refine ⟨_,_,_,rfl,⟨by omega,by omega,by omega,by omega,by omega,by omega⟩,fun l hl => ⟨l,_,rfl,.inl (Am.of Ai),rfl,Oh,.inr ⟨_,rfl,CMul.of_bounds (by split <;> omega) (by split <;> omega),⟨some (.int e.1),some (.int e.2.1),some (.int e.2.2),?_⟩,s3.trans (Ab.new hl)⟩⟩⟩
     have e1 : e.1 * (if (if false = true then !By (V.int (i : Int)) ((C2 e.2.1 8 e.2.2).map V.int) else By (V.int (i : Int)) ((C2 e.2.1 8 e.2.2).map V.int)) = true then 1 else 0) = drawn e i := by
      have ei : (if false = true then !By (V.int (i : Int)) ((C2 e.2.1 8 e.2.2).map V.int) else By (V.int (i : Int)) ((C2 e.2.1 8 e.2.2).map V.int)) = By (V.int (i : Int)) ((C2 e.2.1 8 e.2.2).map V.int) := rfl
      rw [ei,Oi o5 (by omega)]
      unfold drawn
      by_cases c : (i : Int) < e.2.1 \/ ((i : Int) - e.2.1) % e.2.2 ≠ 0
      ·rw [if_pos c,decide_eq_false (fun z => z c),if_neg (by decide),Int.mul_zero]
      ·rw [if_neg c,decide_eq_true c,if_pos rfl,Int.mul_one]
     have e2 : n + ((P.es.map fun e => drawn e i).take k).sum + drawn e i = n + ((P.es.map fun e => drawn e i).take (k + 1)).sum := by
      rw [QT (x := drawn e i) (by rw [List.getElem?_map,he]; rfl)]; omega
     exact congrArg (fun z => [some (V.ref PA),some (.ref A),some (.ref R),some (.int i),some (.int z),some (.int e.1),some (.int e.2.1),some (.int e.2.2)]) ((congrArg (fun z => n + ((P.es.map fun e => drawn e i).take k).sum + z) e1).trans e2)
    ·obtain ⟨⟨y5,y6,y7,rfl⟩,s3⟩ := h
     rw [List.take_of_length_le (l := P.es.map fun e => drawn e i) (by rw [List.length_map]; omega)]
     have kR := (nT.trans s3) _ _ hR1
     refine ⟨.inl ⟨rfl,_,Am.of kR⟩,R,_,_,rfl,rfl,kR,C8 (by rw [List.length_map,List.length_take]; omega),⟨_,_,_,_,_,rfl⟩,Ab.own (s2.trans s3) hR,?_⟩
     rw [Ai,A2 (HG z),List.map_append]; rfl
  ·obtain ⟨⟨y3,y4,y5,y6,y7,rfl⟩,s1,hR1⟩ := h
   refine ⟨R,_,rfl,.inl ⟨Am.of hR1,fun t ht => q _ _ (s1.trans (Ab.new ht)) (Aa.row ?_)⟩⟩
   rw [Ai,List.take_of_length_le (by rw [Cg,List.length_map]; exact Nat.le_refl _)]
 ·exact h.elim
theorem sc__law_mains : Aw ["_law_main","_law_draws_here","_law_firing","_law_low","_law_high","_law_here","_law_found","_law_draw_here","_law_row"] ["_law_main","_law_draws_here","_law_firing"] (Ap s__law_mains) := Ax
theorem QV (F : Df K mg "_law_mains" s__law_mains ["_law_main","_law_draws_here","_law_firing"]) (T : Tx mg)  : Fn P w K mg base 1 "_law_mains" ["_law_main","_law_draws_here","_law_firing"] Gy := by
 refine F.fn sc__law_mains (fun vs H Q E h => ?_) (fun f cdv A outer s H vs Q E hr h => ?_)
 ·unfold Gy at h; split at h; rfl; exact h.elim
 refine ⟨_,(Aj (A7 (cx 0 (by rfl)) (AD K (n := 3) (Ah (Ak 3 sc__law_mains.nd (by rfl)) (Ah (Ak 4 sc__law_mains.nd (by rfl)) (Ah (Ak 5 sc__law_mains.nd (by rfl)) AC (by rfl)) (by rfl)) (by rfl)) (by rfl) (by rfl) (by rfl) (by rfl)) (by rfl) (by rfl) (by rfl)) (Aj (AE (i := 6) sc__law_mains.nd rfl (AA (by rfl)) (BH BV) (by rfl) (AR (by rfl))) (Aj (BK PassesOwn.never rfl (J1 (Ec P w K rfl T.b_zip (As (cx 1 (by rfl)) (cx 2 (by rfl)) (by rfl)) (by rfl) (by rfl) (by rfl) (by rfl) (by rfl)) (NC P w K rfl T.b_zip (As (cx 1 (by rfl)) (cx 2 (by rfl)) (by rfl)) (by rfl) (by rfl) (by rfl) (by rfl) (by rfl))) (AD K (n := 2) (Ah (Ak 7 sc__law_mains.nd (by rfl)) (Ah (Ak 8 sc__law_mains.nd (by rfl)) AC (by rfl)) (by rfl)) (by rfl) (by rfl) (by rfl) (by rfl)) (Aj (AE (i := 5) sc__law_mains.nd rfl (AA (by rfl)) (AB (Hc rfl) rfl T.b_min boot_min (As (cx 4 (by rfl)) (Av BF (Av A8 (cx 5 (by rfl)) (AB (DJ rfl) rfl T.b_sum boot_sum (Aq (cx 8 (by rfl)) (by rfl)) (by decide) (by decide) (by rfl) (by rfl))) (cx 7 (by rfl))) (by rfl)) (by decide) (by decide) (by rfl) (by rfl)) (by rfl) (AR (by rfl))) (Aj (A1 (AW DE (cx 5 (by rfl)) (cx 3 (by rfl)) (AQ _)) (Al (Ao (cx 6 (by rfl)))) AY) (Al (Cc (Dh PySem.F.plainAttrs_list PySem.F.slot_list_append PySem.F.type_list_append Di (cx 6 (by rfl)) (Aq (cx 5 (by rfl)) (by rfl)) (by rfl) (by rfl) (by rfl) (by rfl) (by rfl)) (by rfl))))) (by intro _; rfl)) (Al (Ao (cx 6 (by rfl))))))),?_⟩
 unfold Gy at h
 split at h
 ·rename_i m d f
  obtain ⟨p,P,S,F,hlh,x8,fl,hm,rd,fd,q⟩ := h
  refine ⟨m,_,rfl,Ad.of hm,rfl,_,_,rfl,_,_,rfl,_,_,rfl,rfl,fun R hR => ?_⟩
  have sR := Ab.new (o := .lst []) hR
  have hHR : H R = none := hR
  obtain ⟨D,rfl,hD⟩ := Aa.ofRow (r := draws P S) (Aa.ev (Ev.same sR) _ _ rd)
  have fd2 := fd.same sR
  have kR0 : upd H R (.lst []) R = some (.lst []) := Ai
  have sH2 := sR
  generalize upd H R (.lst []) = H2 at *
  have ld : ((draws P S).map V.int).length = S.ex.length := by rw [List.length_map,Cg]
  obtain ⟨GA,gx,rfl,lg,⟨hG,rows⟩ | ⟨hG,rows⟩⟩ := fd2
  ·refine Or.inl ⟨D,GA,rfl,⟨_,Ad.of hD⟩,⟨_,Ad.of hG⟩,JT (xs := (draws P S).map V.int) (ys := gx) (fun i σ H' => (∃ y7 y8,σ = [some (.ref m),some (.ref D),some (.ref GA),some (.int P.lo),some (.int P.hi),some (.int (AN P S F i)),some (.ref R),y7,y8]) /\ Ev R H2 H' /\ (∀ j,j < i -> P.lo <= Bp P S F j) /\ H' R = some (.lst ((CN P S F i).map V.int))) (by omega)
     ⟨⟨_,_,rfl⟩,Ev.refl,(fun j hj => absurd hj (Nat.not_lt_zero _)),kR0⟩ (fun i σ H' h => ⟨Ad.of (h.2.1.tup hD),Ad.of (h.2.1.tup hG)⟩) (fun i x y σ H' T hx hy h hT => ?_) fun σ H' h => ?_⟩
   ·obtain ⟨⟨y7,y8,rfl⟩,ev,up,hRx⟩ := h
    rw [List.getElem?_map] at hx
    cases z : (draws P S)[i]? with
    | none => rw [z] at hx; cases hx
    | some d0 =>
     rw [z] at hx
     cases hx
     have hi : i < S.ex.length := by have := (List.getElem?_eq_some_iff.mp z).1; rw [Cg] at this; exact this
     obtain ⟨r,hr⟩ : ∃ r,F[i]? = some r := ⟨F[i],by simp⟩
     obtain ⟨ra,rfl,hra⟩ := rows i r y hr hy
     have nT := Ab.new (o := .tup [.int d0,.ref ra]) hT
     have ev1 : Ev R H2 (upd H' T (.tup [.int d0,.ref ra])) := ev.trans (Ev.same nT)
     refine ⟨T,_,rfl,Ad.of Ai,rfl,_,_,rfl,_,_,rfl,rfl,ra,r,rfl,.inr (ev1.tup hra),_,_,rfl,⟨fun c => ?_,fun c => ?_⟩⟩
     ·have c' := of_decide_eq_true c
      have c' : (if AN P S F i + r.sum - d0 < P.hi then AN P S F i + r.sum - d0 else P.hi) < P.lo := c'
      rw [Gw (Ef hr) (Eg z)] at c'
      exact q R _ i (some ((i : Int),P.lo - Bp P S F i)) ⟨Nat.le_of_lt hi,up,.inr ⟨hi,(Gx hlh).mp c',rfl⟩⟩ (Ab.evOwn sH2 hHR ev1) hHR (nT _ _ hRx)
     ·have c' := of_decide_eq_false c
      have c' : ¬ (if AN P S F i + r.sum - d0 < P.hi then AN P S F i + r.sum - d0 else P.hi) < P.lo := c'
      have em := Gw (Ef hr) (Eg z)
      rw [em] at c'
      have kR := nT _ _ hRx
      refine ⟨.inl ⟨rfl,_,Am.of kR⟩,R,_,_,rfl,rfl,kR,C8 (by rw [List.length_map,Ii]; omega),⟨some (.int d0),some (.ref ra),congrArg (fun z => [some (V.ref m),some (.ref D),some (.ref GA),some (.int P.lo),some (.int P.hi),some (.int z),some (.ref R),some (.int d0),some (.ref ra)]) em⟩,ev1.trans (Ev.pen kR),fun j hj => ?_,?_⟩
      ·by_cases cj : j = i
       ·subst cj
        exact Int.not_lt.mp fun w => c' ((Gx hlh).mpr w)
       ·exact up j (by omega)
      ·rw [Ai,KZ,List.map_append]
       exact congrArg (fun z => some (HO.lst ((CN P S F i).map V.int ++ [V.int z]))) em
   ·obtain ⟨⟨y7,y8,rfl⟩,ev,up,hRx⟩ := h
    rw [List.length_map,Cg] at up hRx
    exact q R H' S.ex.length none ⟨Nat.le_refl _,up,.inl ⟨rfl,rfl⟩⟩ (Ab.evOwn sH2 hHR ev) hHR hRx
  ·have nG : GA ≠ R := fun e => by
    subst e
    obtain ⟨A',gx',eA,_,z⟩ := fd
    cases eA
    rcases z with z | z <;> (rw [hHR] at z; cases z.1)
   have nRow : ∀ (i : Nat) g a,F[i]? = some g -> gx[i]? = some (.ref a) -> a ≠ R := fun i g a hg hy e => by
    subst e
    obtain ⟨A',gx',eA,lg2,z⟩ := fd
    cases eA
    rcases z with ⟨z1,z2⟩ | ⟨z1,z2⟩
    ·have := sH2 _ _ z1
     rw [hG] at this; cases this
    ·have := sH2 _ _ z1
     rw [hG] at this
     cases this
     obtain ⟨a',e',k⟩ := z2 i g _ hg hy
     cases e'
     rw [hHR] at k; cases k
   refine Or.inr ⟨D,GA,rfl,⟨_,Ad.of hD⟩,⟨_,Am.of hG⟩,JT (xs := (draws P S).map V.int) (ys := gx) (fun i σ H' => (∃ y7 y8,σ = [some (.ref m),some (.ref D),some (.ref GA),some (.int P.lo),some (.int P.hi),some (.int (AN P S F i)),some (.ref R),y7,y8]) /\ Ev R H2 H' /\ (∀ j,j < i -> P.lo <= Bp P S F j) /\ H' R = some (.lst ((CN P S F i).map V.int))) (by omega)
     ⟨⟨_,_,rfl⟩,Ev.refl,(fun j hj => absurd hj (Nat.not_lt_zero _)),kR0⟩ (fun i σ H' h => ⟨Ad.of (h.2.1.tup hD),Am.of (h.2.1.lst hG nG)⟩) (fun i x y σ H' T hx hy h hT => ?_) fun σ H' h => ?_⟩
   ·obtain ⟨⟨y7,y8,rfl⟩,ev,up,hRx⟩ := h
    rw [List.getElem?_map] at hx
    cases z : (draws P S)[i]? with
    | none => rw [z] at hx; cases hx
    | some d0 =>
     rw [z] at hx
     cases hx
     have hi : i < S.ex.length := by have := (List.getElem?_eq_some_iff.mp z).1; rw [Cg] at this; exact this
     obtain ⟨r,hr⟩ : ∃ r,F[i]? = some r := ⟨F[i],by simp⟩
     obtain ⟨ra,rfl,hra⟩ := rows i r y hr hy
     have nT := Ab.new (o := .tup [.int d0,.ref ra]) hT
     have ev1 : Ev R H2 (upd H' T (.tup [.int d0,.ref ra])) := ev.trans (Ev.same nT)
     refine ⟨T,_,rfl,Ad.of Ai,rfl,_,_,rfl,_,_,rfl,rfl,ra,r,rfl,.inl (ev1.lst hra (nRow i r ra hr hy)),_,_,rfl,⟨fun c => ?_,fun c => ?_⟩⟩
     ·have c' := of_decide_eq_true c
      have c' : (if AN P S F i + r.sum - d0 < P.hi then AN P S F i + r.sum - d0 else P.hi) < P.lo := c'
      rw [Gw (Ef hr) (Eg z)] at c'
      exact q R _ i (some ((i : Int),P.lo - Bp P S F i)) ⟨Nat.le_of_lt hi,up,.inr ⟨hi,(Gx hlh).mp c',rfl⟩⟩ (Ab.evOwn sH2 hHR ev1) hHR (nT _ _ hRx)
     ·have c' := of_decide_eq_false c
      have c' : ¬ (if AN P S F i + r.sum - d0 < P.hi then AN P S F i + r.sum - d0 else P.hi) < P.lo := c'
      have em := Gw (Ef hr) (Eg z)
      rw [em] at c'
      have kR := nT _ _ hRx
      refine ⟨.inl ⟨rfl,_,Am.of kR⟩,R,_,_,rfl,rfl,kR,C8 (by rw [List.length_map,Ii]; omega),⟨some (.int d0),some (.ref ra),congrArg (fun z => [some (V.ref m),some (.ref D),some (.ref GA),some (.int P.lo),some (.int P.hi),some (.int z),some (.ref R),some (.int d0),some (.ref ra)]) em⟩,ev1.trans (Ev.pen kR),fun j hj => ?_,?_⟩
      ·by_cases cj : j = i
       ·subst cj
        exact Int.not_lt.mp fun w => c' ((Gx hlh).mpr w)
       ·exact up j (by omega)
      ·rw [Ai,KZ,List.map_append]
       exact congrArg (fun z => some (HO.lst ((CN P S F i).map V.int ++ [V.int z]))) em
   ·obtain ⟨⟨y7,y8,rfl⟩,ev,up,hRx⟩ := h
    rw [List.length_map,Cg] at up hRx
    exact q R H' S.ex.length none ⟨Nat.le_refl _,up,.inl ⟨rfl,rfl⟩⟩ (Ab.evOwn sH2 hHR ev) hHR hRx
 ·exact h.elim
theorem QW : Aw ["_law_plant_here","_law_story_here","_law_firing"] ["_law_plant_here","_law_story_here","_law_firing"] (Ap s__law_keeps) := Ax
theorem QX (F : Df K mg "_law_keeps" s__law_keeps ["_law_plant_here","_law_story_here","_law_firing"]) (T : Tx mg) (D__law_draws : Fn P w K mg base 1 "_law_draws" ["_law_plant_here","_law_story_here"] Gs) (D__law_mains : Fn P w K mg base 1 "_law_mains" ["_law_main","_law_draws_here","_law_firing"] Gy) : Fn P w K mg base 2 "_law_keeps" ["_law_plant_here","_law_story_here","_law_firing"] Gz := by
 refine F.fn QW (fun vs H Q E h => ?_) (fun f cdv A outer s H vs Q E hr h => ?_)
 ·unfold Gz at h; split at h; rfl; exact h.elim
 refine ⟨_,(Al (Ao (BM Ct (AB (Bb K (by rfl)) rfl T.b_len PySem.boot_len (Aq (Ag D__law_mains (hr.mono (by decide)) rfl (AL (AF (AV K (by rfl)) (cx 0 (by rfl)) Af (fun _ _ => rfl)) (Ag D__law_draws (hr.mono (by decide)) rfl (As (cx 0 (by rfl)) (cx 1 (by rfl)) (by rfl)) (by decide) (by rfl) (by rfl)) (cx 2 (by rfl)) (by rfl)) (by decide) (by rfl) (by rfl)) (by rfl)) (by decide) (by decide) (by rfl) (by rfl)) (AB (Bb K (by rfl)) rfl T.b_len PySem.boot_len (Aq (cx 2 (by rfl)) (by rfl)) (by decide) (by decide) (by rfl) (by rfl)) (AQ _)))),?_⟩
 unfold Gz at h
 split at h
 ·rename_i v u f
  obtain ⟨p,P,S,F,ok,so,fl,r,ru,fd,q⟩ := h
  have x8 := so.x8
  have hl : P.lo <= P.hi := Int.le_trans ok.ls ok.sh
  obtain ⟨PA,PB,PE,PM,xb,xe,rfl,pA,pB,rb,pE,re,pM⟩ := Aa.plant r
  refine ⟨PA,_,2,.ref PM,rfl,rfl,Ad.of pA,rfl,p,P,S,ok,so,r,ru,fun d H1 s1 rd => ⟨p,P,S,F,hl,x8,fl,s1 _ _ pM,rd,fd.same s1,fun R H2 k s run s2 hR hRx => ?_⟩⟩
  have fd2 := (fd.same (s1.trans s2))
  obtain ⟨GA,gx,rfl,lg,fdc⟩ := fd2
  have kg : Am K H2 GA gx \/ Ad K H2 GA gx := fdc.elim (fun z => .inr (Ad.of z.1)) fun z => .inl (Am.of z.1)
  refine ⟨R,_,rfl,.inl (Am.of hRx),GA,gx,rfl,kg,rfl,?_⟩
  refine q _ _ ?_ (s1.trans s2)
  rw [List.length_map,Ii,lg,fl]
  constructor
  ·intro c i hi
   have e : (k : Int) = (S.ex.length : Int) := by
    have := of_decide_eq_true c
    injection this
   exact run.up i (by omega)
  ·intro kp
   refine decide_eq_true ?_
   rcases run.fin with ⟨_,e⟩ | ⟨e1,e2,_⟩
   ·rw [e]
   ·have := kp k e1
    omega
 ·exact h.elim
theorem sc__law_pair : Aw ["_law_pen_here","_law_most","_law_hours","_law_turn","_law_plant_here","_law_story_here"] ["_law_pen_here","_law_most","_law_hours"] (Ap s__law_pair) := Ax
theorem QY (F : Df K mg "_law_pair" s__law_pair ["_law_pen_here","_law_most","_law_hours"]) (T : Tx mg) (D__law_caps : Fn P w K mg base 1 "_law_caps" ["_law_plant_here","_law_story_here"] Gq) (D__law_keeps : Fn P w K mg base 2 "_law_keeps" ["_law_plant_here","_law_story_here","_law_firing"] Gz) (D__law_plant : Fn P w K mg base 2 "_law_plant" ["_law_pen_here","_law_most"] E1) (D__law_story : Fn P w K mg base 2 "_law_story" ["_law_pen_here","_law_plant_here","_law_most"] E5) : Fn P w K mg base 3 "_law_pair" ["_law_pen_here","_law_most","_law_hours"] GB := by
 refine F.fn sc__law_pair (fun vs H Q E h => ?_) (fun f cdv A outer s H vs Q E hr h => ?_)
 ·unfold GB at h; split at h; rfl; exact h.elim
 refine ⟨_,(Aj (BK PassesOwn.never rfl (BU rfl T.b_range (Aq Af (by rfl)) (by rfl)) (Ak 3 sc__law_pair.nd (by rfl)) (Aj (AE (i := 4) sc__law_pair.nd rfl (AA (by rfl)) (Ag D__law_plant (hr.mono (by decide)) rfl (As (cx 0 (by rfl)) (cx 1 (by rfl)) (by rfl)) (by decide) (by rfl) (by rfl)) (by rfl) (AR (by rfl))) (Aj (AE (i := 5) sc__law_pair.nd rfl (AA (by rfl)) (Ag D__law_story (hr.mono (by decide)) rfl (AL (cx 0 (by rfl)) (cx 4 (by rfl)) (cx 2 (by rfl)) (by rfl)) (by decide) (by rfl) (by rfl)) (by rfl) (AR (by rfl))) (Al (A1 (BG (Ag D__law_keeps (hr.mono (by decide)) rfl (AL (cx 4 (by rfl)) (cx 5 (by rfl)) (Ag D__law_caps (hr.mono (by decide)) rfl (As (cx 4 (by rfl)) (cx 5 (by rfl)) (by rfl)) (by decide) (by rfl) (by rfl)) (by rfl)) (by decide) (by rfl) (by rfl)) (by intro _; rfl)) (Al (Ao (Bs (As (cx 4 (by rfl)) (cx 5 (by rfl)) (by rfl))))) AY)))) (by intro _; rfl)) (Al (Ao (Bs (As (Av DG (De s_tup (cx 4 (by rfl)) Fy (Cm Af)) (Bs (As (Bs BV) (AF (AV K (by rfl)) (cx 4 (by rfl)) Af (fun _ _ => rfl)) (by rfl)))) (Bs (As (Av NT (Bs (Aq Af (by rfl))) (AB (Bb K (by rfl)) rfl T.b_len PySem.boot_len (Aq (AF (AV K (by rfl)) (cx 5 (by rfl)) Af (fun _ _ => rfl)) (by rfl)) (by decide) (by decide) (by rfl) (by rfl))) (AF (AV K (by rfl)) (cx 5 (by rfl)) Af (fun _ _ => rfl)) (by rfl))) (by rfl)))))),?_⟩
 unfold GB at h
 split at h
 ·rename_i p m h
  obtain ⟨pn,m1,m4,h1,h8,q⟩ := h
  refine ⟨5,rfl,by decide,by decide,Dx (n := 5) (fun i σ H' => (∃ x3 x4 x5,σ = [some (.ref p),some (.int m),some (.int h),x3,x4,x5] /\ (0 < i -> ∃ v u P S,x4 = some v /\ x5 = some u /\ PL.ok P /\ SY.ok S P.bs.length /\ Aa p H' P.d v /\ Aa p H' S.d u)) /\ Ev p H H' /\ Bc p H') ⟨⟨_,_,_,rfl,fun z => absurd z (Nat.lt_irrefl _)⟩,Ev.refl,pn⟩ (fun i σ H1 hi hP => ?_) fun σ H1 hP => ?_⟩
  ·obtain ⟨⟨x3,x4,x5,rfl,_⟩,e1,pn1⟩ := hP
   refine ⟨pn1,m1,m4,fun v H2 bs es lo hi st gp rv e2 pn2 => ?_⟩
   obtain ⟨P,ok,eP⟩ := gp.pl
   rw [eP] at rv
   refine ⟨pn2,h1,h8,P,ok,rv,fun u H3 S so ru e3 pn3 => ?_⟩
   have rv3 := Aa.ev e3 _ _ rv
   refine ⟨p,P,S,ok,so,rv3,ru,fun c H4 s4 rc => ⟨p,P,S,caps P S,ok,so,DI,Aa.ev (Ev.same s4) _ _ rv3,Aa.ev (Ev.same s4) _ _ ru,Feed.of rc,fun b H5 hb s5 => ⟨fun cc => ?_,fun cc => ?_⟩⟩⟩
   ·intro t ht
    have n1 := Ab.new (o := .tup [v,u]) ht
    have s45 := s4.trans (s5.trans n1)
    exact q t _ P S v u ok so (hb.mp cc) Ai (Aa.ev (Ev.same s45) _ _ rv3) (Aa.ev (Ev.same s45) _ _ ru) (e1.trans (e2.trans (e3.trans (Ev.same s45)))) (pn3.same s45)
   ·have s45 := s4.trans s5
    exact ⟨⟨_,_,_,rfl,fun _ => ⟨v,u,P,S,rfl,rfl,ok,so,Aa.ev (Ev.same s45) _ _ rv3,Aa.ev (Ev.same s45) _ _ ru⟩⟩,e1.trans (e2.trans (e3.trans (Ev.same s45))),pn3.same s45⟩
  ·obtain ⟨⟨x3,x4,x5,rfl,hh⟩,e1,pn1⟩ := hP
   obtain ⟨v,u,P,S,rfl,rfl,ok,so,rv,ru⟩ := hh (by decide)
   obtain ⟨A,B,E,xf,rfl,hA,hB,hE,rf⟩ := Aa.story ru
   obtain ⟨PA,PB,PE,PM,xb,xe,rfl,pA,pB,rb,pE,re,pM⟩ := Aa.plant rv
   have x8 := so.x8
   have x1 := so.x1
   refine ⟨1,rfl,PA,_,rfl,pA,fun u1 H2 s2 k2 z1 hz1 => ?_⟩
   have n1 := Ab.new (o := .tup []) hz1
   refine ⟨PA,_,2,.ref PM,rfl,rfl,Ad.of ((s2.trans n1) _ _ pA),rfl,fun z2 hz2 => ?_⟩
   have n2 := Ab.new (o := .tup [.ref z1,.ref PM]) hz2
   have s12 := s2.trans (n1.trans n2)
   refine ⟨u1,z2,_,_,rfl,rfl,(n1.trans n2) _ _ k2,Ai,(show (1 : Nat) + 2 <= 1000 by decide),fun u3 H3 s3 k3 z3 hz3 => ?_⟩
   have n3 := Ab.new (o := .tup [.int 0]) hz3
   have s13 := s12.trans (s3.trans n3)
   refine ⟨A,_,0,.ref B,rfl,rfl,Ad.of (s13 _ _ hA),rfl,B,_,rfl,.inr (Ad.of (s13 _ _ hB)),z3,_,[.int 0],rfl,rfl,Ai,by simp,(by rw [List.length_map]; omega),(by rw [List.length_map]; omega),by simp,fun u4 H4 s4 k4 => ?_⟩
   rw [List.length_map,Int.toNat_natCast,QR] at k4
   have s14 := s13.trans s4
   refine ⟨A,_,1,.ref E,rfl,rfl,Ad.of (s14 _ _ hA),rfl,fun z5 hz5 t ht => ?_⟩
   have n5 := Ab.new (o := .tup [.ref u4,.ref E]) hz5
   have n6 := Ab.new (o := .tup [.ref u3,.ref z5]) ht
   have s16 := s14.trans (n5.trans n6)
   let P' : PL := ⟨P.bs,[],P.lo,P.hi,P.st⟩
   let S' : SY := ⟨List.replicate S.ex.length 0,S.fs⟩
   have ok' : PL.ok P' := ⟨ok.b,ok.b1,ok.b4,fun _ z => (by cases z),Nat.zero_le _,ok.lo0,ok.ls,ok.sh,ok.h4⟩
   have le' : S'.ex.length = S.ex.length := List.length_replicate
   have so' : SY.ok S' P'.bs.length := ⟨by rw [le']; exact so.x1,by rw [le']; exact so.x8,fun a ha => by rw [List.eq_of_mem_replicate ha]; omega,so.f4,fun x hx => by rw [le']; exact so.f x hx⟩
   have z1k := ((n2.trans (s3.trans (n3.trans (s4.trans (n5.trans n6))))) _ _ (Ai (H := H2) (a := z1) (o := .tup [])))
   refine q t _ P' S' (.ref u3) (.ref z5) ok' so' (QS ok' so' rfl fun a ha => List.eq_of_mem_replicate ha) Ai ?_ ?_ (e1.trans (Ev.same s16)) (pn1.same s16)
   ·have k3' := (n3.trans (s4.trans (n5.trans n6))) _ _ k3
    refine Aa.tup (xs := [.ref PB,.ref z1,.ref PM]) k3' (.cons (Aa.tup (s16 _ _ pB) (Ac.ev (Ev.same s16) _ _ rb)) (.cons (Aa.tup z1k .nil) (.cons (Aa.tup (s16 _ _ pM) (.cons Aa.int (.cons Aa.int (.cons Aa.int .nil)))) .nil)))
   ·have k5 := n6 _ _ (Ai (H := H4) (a := z5) (o := .tup [.ref u4,.ref E]))
    refine Aa.tup k5 (.cons (Aa.row ?_) (.cons (Aa.tup (s16 _ _ hE) (Ac.ev (Ev.same s16) _ _ rf)) .nil))
    have := (n5.trans n6) _ _ k4
    rw [this,List.map_replicate]
 ·exact h.elim
end
end MF
end
section
namespace MF
open PySem PySem.Spec PyProof.Rows L2
def GC : Sp := fun vs H Q _ => match vs with | [v,u] => ∃ p r cs,Aa p H (AH r) v /\ Aa p H (AH cs) u /\ r.length = cs.length /\ r.length <= 1000 /\ (∀ (j : Nat) (x c : Int),r[j]? = some x -> cs[j]? = some c -> 0 <= x /\ x <= c) /\ ∀ H',Ab H H' -> Q (.bl true) H' | _ => False
def GD : Sp := fun vs H Q _ => match vs with | [v,u,w] => ∃ p P S F,Tri p H P S F v u w /\ ∀ H',Ab H H' -> Q (.bl true) H' | _ => False
structure K0 (F cs : List (List Int)) : Prop where
 len : F.length = cs.length
 few : F.length <= 1000
 row : ∀ (i : Nat) (r c : List Int),F[i]? = some r -> cs[i]? = some c -> r.length = c.length /\ r.length <= 1000 /\ ∀ (j : Nat) (x y : Int),r[j]? = some x -> c[j]? = some y -> 0 <= x /\ x <= y
theorem QZ {P : PL} {S : SY} {F : List (List Int)} (ok : P.ok) (so : S.ok P.bs.length) (fo : FOk P S F) : K0 F (caps P S) := by
 have fl := fo.len
 have x8 := so.x8
 have b4 := ok.b4
 refine ⟨by rw [DI]; exact fl,by omega,fun i r c hr hc => ?_⟩
 rw [Ed (by have := (List.getElem?_eq_some_iff.mp hr).1; omega)] at hc
 cases hc
 have := fo.row i r hr
 exact ⟨by rw [FR]; exact this,by omega,fun j x y hx hy => fo.bd i r j x y hr hx hy⟩
def Fa : Sp := fun vs H Q _ => match vs with | [c,w] => ∃ p cs F,K0 F cs /\ Aa p H (FD cs) c /\ Aa p H (FD F) w /\ ∀ H',Ab H H' -> Q (.bl true) H' | _ => False
def Fb : Sp := fun vs H Q _ => match vs with | [v,u,w] => ∃ p P S F,Tri p H P S F v u w /\ ∀ H',Ab H H' -> Q .non H' | _ => False
def GE : Sp := fun vs H Q _ => match vs with | [v,u,w] => ∃ p P S F,Tri p H P S F v u w /\ ∀ t R sv H' k s xs,EO P S F k s -> Ab H H' -> H R = none -> H' t = some (.tup [.ref R,sv]) -> H' R = some (.lst xs) -> Ac p H' (Dk P S F k) xs -> Aa p H' (EN s) sv -> Q (.ref t) H' | _ => False
def GF : Sp := fun vs H Q _ => match vs with | [v,u,w] => ∃ p P S F,Tri p H P S F v u w /\ ∀ sv H' k s,EO P S F k s -> Ab H H' -> Aa p H' (EN s) sv -> Q sv H' | _ => False
def GG : Sp := fun vs H Q _ => match vs with | [v,u,w] => ∃ p P S F,Tri p H P S F v u w /\ ∀ H' k s,EO P S F k s -> Ab H H' -> Q (.bl s.isNone) H' | _ => False
def Fc : Sp := fun vs H Q _ => match vs with | [v,u,w] => ∃ p P S F,Tri p H P S F v u w /\ ret H Q p (AH (BA P F)) | _ => False
theorem Q0 {p : Addr} {H : Hp} {s : Option (Int × Int)} {sv : V} (r : Aa p H (EN s) sv) : decide (sv = .non) = s.isNone := by
 cases s with
 | none => unfold EN Aa at r; subst r; rfl
 | some q =>
  unfold EN at r
  obtain ⟨A,xs,rfl,_⟩ := Aa.shape r
  rfl
section
variable {P : Program} {w : World} {K : PySem.W.Frag} {mg : Str -> Option Value} {base : Heap}
theorem Q1 : Aw ["thing","caps"] ["thing","caps"] (Ap s_is_row) := Ax
theorem Q2 (F : Df K mg "is_row" s_is_row ["thing","caps"]) (T : Tx mg) (D_is_tuple_of : BR P w K mg base) (D_is_whole_from : C7 P w K mg base) : Fn P w K mg base 3 "is_row" ["thing","caps"] GC := by
 refine F.fn Q1 (fun vs H Q E h => ?_) (fun f cdv A outer s H vs Q E hr h => ?_)
 ·unfold GC at h; split at h; rfl; exact h.elim
 refine ⟨_,(Al (Ao (AZ (Ag D_is_tuple_of (hr.mono (by decide)) rfl (AL (cx 0 (by rfl)) (AB (Bb K (by rfl)) rfl T.b_len PySem.boot_len (Aq (cx 1 (by rfl)) (by rfl)) (by decide) (by decide) (by rfl) (by rfl)) (AB (Bb K (by rfl)) rfl T.b_len PySem.boot_len (Aq (cx 1 (by rfl)) (by rfl)) (by decide) (by decide) (by rfl) (by rfl)) (by rfl)) (by decide) (by rfl) (by rfl)) (Bl (AB (CZ rfl) rfl T.b_all boot_all (Aq (A4 ["part","cap"] [none,none] rfl (Ec P w K rfl T.b_zip (As (cx 0 (by rfl)) (cx 1 (by rfl)) (by rfl)) (by rfl) (by rfl) (by rfl) (by rfl) (by rfl)) (AG.of rfl) (fun _ _ _ _ => (AD K (n := 2) (Ah (Ak 0 (Az (by rfl)) (by rfl)) (Ah (Ak 1 (Az (by rfl)) (by rfl)) AC (by rfl)) (by rfl)) (by rfl) (by rfl) (by rfl) (by rfl))) (fun _ _ _ _ => A3) (fun _ _ _ _ => (Ag D_is_whole_from (hr.mono (by decide)) rfl (AL (cx 0 (by rfl)) Af (cx 1 (by rfl)) (by rfl)) (by decide) (by rfl) (by rfl))) (by intro _; rfl)) (by rfl)) (by decide) (by decide) (by rfl) (by rfl)))))),?_⟩
 unfold GC at h
 split at h
 ·rename_i v u
  obtain ⟨p,r,cs,rv,ru,hl,h1000,bd,q⟩ := h
  obtain ⟨A,rfl,hA⟩ := Aa.ofRow rv
  obtain ⟨B,rfl,hB⟩ := Aa.ofRow ru
  refine ⟨B,_,rfl,.inr (Ad.of hB),B,_,rfl,.inr (Ad.of hB),p,_,rv,fun b hb => ⟨fun _ => ?_,fun c => ?_⟩⟩
  ·refine ⟨A,B,rfl,⟨_,Ad.of hA⟩,⟨_,Ad.of hB⟩,walk_zip (xs := r.map V.int) (ys := cs.map V.int) (fun i zs H' => Ab H H' /\ zs = List.replicate i (V.bl true)) (by rw [List.length_map]; omega) (by rw [List.length_map,List.length_map]; exact hl) ⟨Ab.refl _,rfl⟩
    (fun i zs H' h => by rw [h.2,List.length_replicate]; omega) (fun i zs H' h => ⟨Ad.of (h.1 _ _ hA),Ad.of (h.1 _ _ hB)⟩) (fun i x y zs H' T hx hy h hT => ?_) fun zs H' h => ?_⟩
   ·rw [List.getElem?_map] at hx hy
    cases z1 : r[i]? with
    | none => rw [z1] at hx; cases hx
    | some n =>
     cases z2 : cs[i]? with
     | none => rw [z2] at hy; cases hy
     | some m =>
      rw [z1] at hx
      rw [z2] at hy
      cases hx
      cases hy
      obtain ⟨n0,nm⟩ := bd i n m z1 z2
      refine ⟨T,_,rfl,Ad.of Ai,rfl,_,_,rfl,_,_,rfl,rfl,trivial,fun _ => ⟨p,.int n,Aa.int,fun b1 e1 => ⟨h.1.trans (Ab.new hT),?_⟩⟩,fun c => by cases c⟩
      rw [BS n0 nm] at e1
      rw [h.2,e1,List.replicate_succ']
   ·intro m hm
    refine ⟨m,List.replicate (r.map V.int).length true,rfl,by rw [Ai,h.2,List.map_replicate],?_⟩
    have ea : (List.replicate (r.map V.int).length true).all id = true := by simp
    rw [ea]
    exact q _ (h.1.trans (Ab.new hm))
  ·rw [Dt (by rw [List.length_map,List.length_map]; omega) (by rw [List.length_map,List.length_map]; omega)] at hb
   rw [hb] at c; cases c
 ·exact h.elim
theorem Q3 : Aw ["caps","thing"] ["caps","thing"] (Ap s_is_firing_within) := Ax
theorem Q4 (F : Df K mg "is_firing_within" s_is_firing_within ["caps","thing"]) (T : Tx mg) (D_is_row : Fn P w K mg base 3 "is_row" ["thing","caps"] GC) (D_is_tuple_of : BR P w K mg base) : Fn P w K mg base 4 "is_firing_within" ["caps","thing"] Fa := by
 refine F.fn Q3 (fun vs H Q E h => ?_) (fun f cdv A outer s H vs Q E hr h => ?_)
 ·unfold Fa at h; split at h; rfl; exact h.elim
 refine ⟨_,(Al (Ao (AZ (Ag D_is_tuple_of (hr.mono (by decide)) rfl (AL (cx 1 (by rfl)) (AB (Bb K (by rfl)) rfl T.b_len PySem.boot_len (Aq (cx 0 (by rfl)) (by rfl)) (by decide) (by decide) (by rfl) (by rfl)) (AB (Bb K (by rfl)) rfl T.b_len PySem.boot_len (Aq (cx 0 (by rfl)) (by rfl)) (by decide) (by decide) (by rfl) (by rfl)) (by rfl)) (by decide) (by rfl) (by rfl)) (Bl (AB (CZ rfl) rfl T.b_all boot_all (Aq (A4 ["part","row"] [none,none] rfl (Ec P w K rfl T.b_zip (As (cx 1 (by rfl)) (cx 0 (by rfl)) (by rfl)) (by rfl) (by rfl) (by rfl) (by rfl) (by rfl)) (AG.of rfl) (fun _ _ _ _ => (AD K (n := 2) (Ah (Ak 0 (Az (by rfl)) (by rfl)) (Ah (Ak 1 (Az (by rfl)) (by rfl)) AC (by rfl)) (by rfl)) (by rfl) (by rfl) (by rfl) (by rfl))) (fun _ _ _ _ => A3) (fun _ _ _ _ => (Ag D_is_row (hr.mono (by decide)) rfl (As (cx 0 (by rfl)) (cx 1 (by rfl)) (by rfl)) (by decide) (by rfl) (by rfl))) (by intro _; rfl)) (by rfl)) (by decide) (by decide) (by rfl) (by rfl)))))),?_⟩
 unfold Fa at h
 split at h
 ·rename_i c w
  obtain ⟨p,cs,F,bn,r1,rw',q⟩ := h
  have fl := bn.len
  have f1 := bn.few
  obtain ⟨A,xs,rfl,hA,rx⟩ := Aa.firing rw'
  obtain ⟨B,ys,rfl,hB,ry⟩ := Aa.firing r1
  have lx := rx.len
  rw [List.length_map] at lx
  have ly := ry.len
  rw [List.length_map] at ly
  refine ⟨B,_,rfl,.inr (Ad.of hB),B,_,rfl,.inr (Ad.of hB),p,_,rw',fun b hb => ⟨fun _ => ?_,fun c => ?_⟩⟩
  ·refine ⟨A,B,rfl,⟨_,Ad.of hA⟩,⟨_,Ad.of hB⟩,walk_zip (xs := xs) (ys := ys) (fun i zs H' => Ab H H' /\ zs = List.replicate i (V.bl true)) (by omega) (by omega) ⟨Ab.refl _,rfl⟩
    (fun i zs H' h => by rw [h.2,List.length_replicate]; omega) (fun i zs H' h => ⟨Ad.of (h.1 _ _ hA),Ad.of (h.1 _ _ hB)⟩) (fun i x y zs H' T hx hy h hT => ?_) fun zs H' h => ?_⟩
   ·obtain ⟨r,hr,rr⟩ := Ac.mapGot rx hx
    obtain ⟨c0,hc,rc⟩ := Ac.mapGot ry hy
    obtain ⟨b1,b2,b3⟩ := bn.row i r c0 hr hc
    have s2 := h.1.trans (Ab.new (o := .tup [x,y]) hT)
    refine ⟨T,_,rfl,Ad.of Ai,rfl,_,_,rfl,_,_,rfl,rfl,trivial,fun _ => ⟨p,r,_,Aa.ev (Ev.same s2) _ _ rr,Aa.ev (Ev.same s2) _ _ rc,b1,b2,b3,fun H3 s3 => ⟨s2.trans s3,?_⟩⟩,fun c => by cases c⟩
    rw [h.2,List.replicate_succ']
   ·intro m hm
    refine ⟨m,List.replicate xs.length true,rfl,by rw [Ai,h.2,List.map_replicate],?_⟩
    have ea : (List.replicate xs.length true).all id = true := by simp
    rw [ea]
    exact q _ (h.1.trans (Ab.new hm))
  ·unfold FD at hb
   rw [Dt (by rw [List.length_map]; omega) (by rw [List.length_map]; omega)] at hb
   rw [hb] at c; cases c
 ·exact h.elim
theorem Q5 : Aw ["plant","story","thing"] ["plant","story","thing"] (Ap s_is_firing) := Ax
theorem Q6 (F : Df K mg "is_firing" s_is_firing ["plant","story","thing"]) (T : Tx mg) (D_caps_of : Fn P w K mg base 9 "caps_of" ["plant","story"] E3) (D_is_firing_within : Fn P w K mg base 4 "is_firing_within" ["caps","thing"] Fa) : Fn P w K mg base 10 "is_firing" ["plant","story","thing"] GD := by
 refine F.fn Q5 (fun vs H Q E h => ?_) (fun f cdv A outer s H vs Q E hr h => ?_)
 ·unfold GD at h; split at h; rfl; exact h.elim
 refine ⟨_,(Al (Ao (Ag D_is_firing_within (hr.mono (by decide)) rfl (As (Ag D_caps_of (hr.mono (by decide)) rfl (As (cx 0 (by rfl)) (cx 1 (by rfl)) (by rfl)) (by decide) (by rfl) (by rfl)) (cx 2 (by rfl)) (by rfl)) (by decide) (by rfl) (by rfl)))),?_⟩
 unfold GD at h
 split at h
 ·rename_i v u w
  obtain ⟨p,P,S,F,tr,q⟩ := h
  exact ⟨p,P,S,tr.ok,tr.so,tr.r,tr.ru,fun v1 H1 s1 r1 => ⟨p,_,F,QZ tr.ok tr.so tr.fo,r1,(tr.sm s1).rw,fun H2 s2 => q H2 (s1.trans s2)⟩⟩
 ·exact h.elim
theorem Q7 : Aw ["plant","story","firing"] ["plant","story","firing"] (Ap s_need_firing) := Ax
theorem Q8 (F : Df K mg "need_firing" s_need_firing ["plant","story","firing"]) (T : Tx mg) (D_is_firing : Fn P w K mg base 10 "is_firing" ["plant","story","thing"] GD) : Fn P w K mg base 11 "need_firing" ["plant","story","firing"] Fb := by
 refine F.fn Q7 (fun vs H Q E h => ?_) (fun f cdv A outer s H vs Q E hr h => ?_)
 ·unfold Fb at h; split at h; rfl; exact h.elim
 refine ⟨_,(Al (A1 (BT (BG (Ag D_is_firing (hr.mono (by decide)) rfl (AL (cx 0 (by rfl)) (cx 1 (by rfl)) (cx 2 (by rfl)) (by rfl)) (by decide) (by rfl) (by rfl)) (by intro _; rfl))) (Al Fm) AY)),?_⟩
 unfold Fb at h
 split at h
 ·rename_i v u w
  obtain ⟨p,P,S,F,tr,q⟩ := h
  exact ⟨p,P,S,F,tr,fun H' s => ⟨fun c => (by cases c),fun c => q H' s⟩⟩
 ·exact h.elim
theorem sc_run_day : Aw ["plant","story","firing","low","high","main","rows","hour","drawn","made","blown"] ["plant","story","firing"] (Ap s_run_day) := Ax
theorem Q9 (F : Df K mg "run_day" s_run_day ["plant","story","firing"]) (T : Tx mg) (D_draws_of : Fn P w K mg base 9 "draws_of" ["plant","story"] E4) (D_need_firing : Fn P w K mg base 11 "need_firing" ["plant","story","firing"] Fb) : Fn P w K mg base 12 "run_day" ["plant","story","firing"] GE := by
 refine F.fn sc_run_day (fun vs H Q E h => ?_) (fun f cdv A outer s H vs Q E hr h => ?_)
 ·unfold GE at h; split at h; rfl; exact h.elim
 refine ⟨_,(Aj (Cc (Ag D_need_firing (hr.mono (by decide)) rfl (AL (cx 0 (by rfl)) (cx 1 (by rfl)) (cx 2 (by rfl)) (by rfl)) (by decide) (by rfl) (by rfl)) (by rfl)) (Aj (A7 (AF (AV K (by rfl)) (cx 0 (by rfl)) Af (fun _ _ => rfl)) (AD K (n := 3) (Ah (Ak 3 sc_run_day.nd (by rfl)) (Ah (Ak 4 sc_run_day.nd (by rfl)) (Ah (Ak 5 sc_run_day.nd (by rfl)) AC (by rfl)) (by rfl)) (by rfl)) (by rfl) (by rfl) (by rfl) (by rfl)) (by rfl) (by rfl) (by rfl)) (Aj (AE (i := 6) sc_run_day.nd rfl (AA (by rfl)) (BH BV) (by rfl) (AR (by rfl))) (Aj (BK PassesOwn.never rfl (Eb P w K rfl T.b_enumerate (Aq (Ag D_draws_of (hr.mono (by decide)) rfl (As (cx 0 (by rfl)) (cx 1 (by rfl)) (by rfl)) (by decide) (by rfl) (by rfl)) (by rfl)) (by rfl) (by rfl) (by rfl) (by rfl)) (AD K (n := 2) (Ah (Ak 7 sc_run_day.nd (by rfl)) (Ah (Ak 8 sc_run_day.nd (by rfl)) AC (by rfl)) (by rfl)) (by rfl) (by rfl) (by rfl) (by rfl)) (Aj (AE (i := 9) sc_run_day.nd rfl (AA (by rfl)) (AB (DJ rfl) rfl T.b_sum boot_sum (Aq (AF (AV K (by rfl)) (cx 2 (by rfl)) (cx 7 (by rfl)) (fun _ _ => rfl)) (by rfl)) (by decide) (by decide) (by rfl) (by rfl)) (by rfl) (AR (by rfl))) (Aj (IB (i := 5) sc_run_day.nd rfl (AA (by rfl)) (Av BF (cx 9 (by rfl)) (cx 8 (by rfl))) LM (AR (by rfl))) (Aj (A1 (AW DE (cx 5 (by rfl)) (cx 3 (by rfl)) (AQ _)) (Al (Ao (Bs (As (cx 6 (by rfl)) (Bs (As (cx 7 (by rfl)) (Av BF (cx 3 (by rfl)) (cx 5 (by rfl))) (by rfl))) (by rfl))))) AY) (Aj (AE (i := 10) sc_run_day.nd rfl (AA (by rfl)) (AB (IR rfl) rfl T.b_max boot_max (As (Av BF (cx 5 (by rfl)) (cx 4 (by rfl))) Af (by rfl)) (by decide) (by decide) (by rfl) (by rfl)) (by rfl) (AR (by rfl))) (Aj (IB (i := 5) sc_run_day.nd rfl (AA (by rfl)) (cx 10 (by rfl)) LN (AR (by rfl))) (Al (Cc (Dh PySem.F.plainAttrs_list PySem.F.slot_list_append PySem.F.type_list_append Di (cx 6 (by rfl)) (Aq (Bs (C1 (cx 9 (by rfl)) (cx 8 (by rfl)) (cx 10 (by rfl)) (cx 5 (by rfl)) (by rfl))) (by rfl)) (by rfl) (by rfl) (by rfl) (by rfl) (by rfl)) (by rfl)))))))) (by intro _; rfl)) (Al (Ao (Bs (As (cx 6 (by rfl)) Ck (by rfl))))))))),?_⟩
 unfold GE at h
 split at h
 ·rename_i v u w
  obtain ⟨p,P,S,F,tr,q⟩ := h
  refine ⟨p,P,S,F,tr,fun H1 s1 => ?_⟩
  have t1 := tr.sm s1
  have x8 := tr.so.x8
  have fl := tr.fo.len
  obtain ⟨PA,PB,PE,PM,xb,xe,rfl,pA,pB,rb,pE,re,pM⟩ := Aa.plant t1.r
  refine ⟨PA,_,2,.ref PM,rfl,rfl,Ad.of pA,rfl,PM,_,rfl,Ad.of pM,rfl,_,_,rfl,_,_,rfl,_,_,rfl,rfl,fun R hR => ?_⟩
  have sR : Ab H1 (upd H1 R (.lst [])) := Ab.new hR
  have hHR : H R = none := s1.free hR
  have tR := t1.sm sR
  refine ⟨p,P,S,tr.ok,tr.so,tR.r,tR.ru,fun v1 H2 s2 r2 => ?_⟩
  obtain ⟨D,rfl,hD⟩ := Aa.ofRow (r := draws P S) r2
  have t2 := tR.sm s2
  have sH2 : Ab H H2 := s1.trans (sR.trans s2)
  obtain ⟨FA,fx,rfl,hF,rx⟩ := Aa.firing t2.rw
  refine ⟨D,rfl,⟨_,Ad.of hD⟩,for_enum (xs := (draws P S).map V.int) (fun i σ H' => (∃ x7 x8 x9 x10,σ = [some (.ref PA),some u,some (.ref FA),some (.int P.lo),some (.int P.hi),some (.int (AN P S F i)),some (.ref R),x7,x8,x9,x10]) /\ Ev R H2 H' /\ (∀ j,j < i -> P.lo <= Bp P S F j) /\ ∃ xs,H' R = some (.lst xs) /\ Ac p H' (Dk P S F i) xs)
   ⟨⟨_,_,_,_,rfl⟩,Ev.refl,(fun j hj => absurd hj (Nat.not_lt_zero _)),[],s2 _ _ Ai,.nil⟩ (fun i σ H' h => Ad.of (h.2.1.tup hD)) (fun i x σ H' T hx h hT => ?_) fun σ H' h => ?_⟩
  ·obtain ⟨⟨x7,x8',x9,x10,rfl⟩,ev,up,xs,hRx,rxs⟩ := h
   rw [List.getElem?_map] at hx
   cases z : (draws P S)[i]? with
   | none => rw [z] at hx; cases hx
   | some d =>
    rw [z] at hx
    cases hx
    have hi : i < S.ex.length := by
     have := (List.getElem?_eq_some_iff.mp z).1
     rw [Cg] at this; exact this
    have ed := Eg z
    obtain ⟨r,hr⟩ : ∃ r,F[i]? = some r := ⟨F[i],by simp⟩
    have em := Ef hr
    obtain ⟨y,hy,ry⟩ := rx.get (i := i) (d := AH r) (by rw [List.getElem?_map,hr]; rfl)
    have nw : Ab H' (upd H' T (.tup [.int i,.int d])) := Ab.new hT
    have ev2 : Ev R H2 (upd H' T (.tup [.int i,.int d])) := ev.trans (Ev.same nw)
    obtain ⟨ra,rfl,hra⟩ := Aa.ofRow ry
    refine ⟨T,_,rfl,Ad.of Ai,rfl,_,_,rfl,_,_,rfl,rfl,?_⟩
    refine ⟨FA,_,(i : Int),.ref ra,rfl,rfl,Ad.of (ev2.tup hF),Dg hy,ra,r,rfl,.inr (ev2.tup hra),_,rfl,_,_,rfl,rfl,?_⟩
    have epm : AN P S F i + (r.sum - d) = Bp P S F i := by unfold Bp; rw [em,ed]
    refine ⟨fun c => ?_,fun c => ?_⟩
    ·intro t1 ht1 t2 ht2
     have c' := of_decide_eq_true c
     have n12 := (Ab.new (o := .tup [.int i,.int (P.lo - (AN P S F i + (r.sum - d)))]) ht1).trans (Ab.new (o := .tup [.ref R,.ref t1]) ht2)
     refine q t2 R (.ref t1) _ i (some ((i : Int),P.lo - Bp P S F i)) xs ⟨Nat.le_of_lt hi,up,.inr ⟨hi,by rw [<- epm]; exact c',rfl⟩⟩ (Ab.evOwn sH2 hHR (ev2.trans (Ev.same n12))) hHR Ai ((nw.trans n12) _ _ hRx) (Ac.ev (Ev.same (nw.trans n12)) _ _ rxs) ?_
     refine Aa.tup ((Ab.new ht2) _ _ Ai) ?_
     rw [<- epm]
     exact .cons Aa.int (.cons Aa.int .nil)
    ·refine ⟨_,_,rfl,_,rfl,_,_,rfl,rfl,.inl ⟨rfl,_,Am.of (nw _ _ hRx)⟩,fun t ht => ?_⟩
     have c' : P.lo <= Bp P S F i := by
      have := of_decide_eq_false c
      have h2 : ¬ AN P S F i + (r.sum - d) < P.lo := this
      rw [epm] at h2; omega
     have lx := rxs.len
     rw [NQ] at lx
     have hR3 : upd (upd H' T (.tup [.int i,.int d])) t (.tup [.int r.sum,.int d,.int (if 0 > AN P S F i + (r.sum - d) - P.hi then 0 else AN P S F i + (r.sum - d) - P.hi),.int (AN P S F i + (r.sum - d) - if 0 > AN P S F i + (r.sum - d) - P.hi then 0 else AN P S F i + (r.sum - d) - P.hi)]) R = some (.lst xs) := (nw.trans (Ab.new ht)) _ _ hRx
     have em2 : AN P S F i + (r.sum - d) - (if 0 > AN P S F i + (r.sum - d) - P.hi then 0 else AN P S F i + (r.sum - d) - P.hi) = AN P S F (i + 1) := by rw [Ee,<- epm]; rfl
     refine ⟨R,xs,.ref t,rfl,rfl,hR3,C8 (by omega),⟨some (.int i),some (.int d),some (.int r.sum),some (.int (if 0 > AN P S F i + (r.sum - d) - P.hi then 0 else AN P S F i + (r.sum - d) - P.hi)),congrArg (fun z => [some (V.ref PA),some u,some (V.ref FA),some (V.int P.lo),some (V.int P.hi),some (V.int z),some (V.ref R),some (V.int i),some (V.int d),some (V.int r.sum),some (V.int (if 0 > AN P S F i + (r.sum - d) - P.hi then 0 else AN P S F i + (r.sum - d) - P.hi))]) em2⟩,(ev2.trans (Ev.new ht)).trans (Ev.pen hR3),fun j hj => ?_,_,Ai,?_⟩
     ·by_cases cj : j = i
      ·subst cj; exact c'
      ·exact up j (by omega)
     ·have tv := TEv.upd (zs := xs ++ [.ref t]) hR3
      rw [NP]
      refine Ac.snoc (Ac.tev ((Ev.same (p := p) (nw.trans (Ab.new ht))).tev.trans tv) _ _ (EZ fun d hd => ?_) rxs) (Aa.tev (p := p) tv _ _ rfl (Aa.tup Ai ?_))
      ·unfold Dk at hd
       obtain ⟨k,_,rfl⟩ := List.mem_map.mp hd
       rfl
      ·rw [em,ed,Ee,<- epm]
       exact .cons Aa.int (.cons Aa.int (.cons Aa.int (.cons Aa.int .nil)))
  ·obtain ⟨⟨x7,x8',x9,x10,rfl⟩,ev,up,xs,hRx,rxs⟩ := h
   rw [List.length_map,Cg] at up rxs
   intro t ht
   have nw := Ab.new (o := .tup [.ref R,.non]) ht
   exact q t R .non _ S.ex.length none xs ⟨Nat.le_refl _,up,.inl ⟨rfl,rfl⟩⟩ (Ab.evOwn sH2 hHR (ev.trans (Ev.same nw))) hHR Ai (nw _ _ hRx) (Ac.ev (Ev.same nw) _ _ rxs) Aa.non
 ·exact h.elim
theorem sc_falls_at : Aw ["plant","story","firing","rows","short"] ["plant","story","firing"] (Ap s_falls_at) := Ax
theorem Ra (F : Df K mg "falls_at" s_falls_at ["plant","story","firing"]) (T : Tx mg) (D_run_day : Fn P w K mg base 12 "run_day" ["plant","story","firing"] GE) : Fn P w K mg base 13 "falls_at" ["plant","story","firing"] GF := by
 refine F.fn sc_falls_at (fun vs H Q E h => ?_) (fun f cdv A outer s H vs Q E hr h => ?_)
 ·unfold GF at h; split at h; rfl; exact h.elim
 refine ⟨_,(Aj (A7 (Ag D_run_day (hr.mono (by decide)) rfl (AL (cx 0 (by rfl)) (cx 1 (by rfl)) (cx 2 (by rfl)) (by rfl)) (by decide) (by rfl) (by rfl)) (AD K (n := 2) (Ah (Ak 3 sc_falls_at.nd (by rfl)) (Ah (Ak 4 sc_falls_at.nd (by rfl)) AC (by rfl)) (by rfl)) (by rfl) (by rfl) (by rfl) (by rfl)) (by rfl) (by rfl) (by rfl)) (Al (Ao (cx 4 (by rfl))))),?_⟩
 unfold GF at h
 split at h
 ·rename_i v u w
  obtain ⟨p,P,S,F,tr,q⟩ := h
  exact ⟨p,P,S,F,tr,fun t R sv H' k s xs run sm hR ht hRx rx rs => ⟨t,_,rfl,Ad.of ht,rfl,_,_,rfl,_,_,rfl,rfl,q sv H' k s run sm rs⟩⟩
 ·exact h.elim
theorem Rb : Aw ["plant","story","firing"] ["plant","story","firing"] (Ap s_keeps_up) := Ax
theorem Rc (F : Df K mg "keeps_up" s_keeps_up ["plant","story","firing"]) (T : Tx mg) (D_falls_at : Fn P w K mg base 13 "falls_at" ["plant","story","firing"] GF) : Fn P w K mg base 14 "keeps_up" ["plant","story","firing"] GG := by
 refine F.fn Rb (fun vs H Q E h => ?_) (fun f cdv A outer s H vs Q E hr h => ?_)
 ·unfold GG at h; split at h; rfl; exact h.elim
 refine ⟨_,(Al (Ao (BM EC (Ag D_falls_at (hr.mono (by decide)) rfl (AL (cx 0 (by rfl)) (cx 1 (by rfl)) (cx 2 (by rfl)) (by rfl)) (by decide) (by rfl) (by rfl)) Ck (AQ _)))),?_⟩
 unfold GG at h
 split at h
 ·rename_i v u w
  obtain ⟨p,P,S,F,tr,q⟩ := h
  refine ⟨p,P,S,F,tr,fun sv H' k s run sm rs => ⟨rfl,?_⟩⟩
  rw [Q0 rs]
  exact q H' k s run sm
 ·exact h.elim
theorem Re : Aw ["plant","story","firing"] ["plant","story","firing"] (Ap s_steam_by) := Ax
theorem Rf (F : Df K mg "steam_by" s_steam_by ["plant","story","firing"]) (T : Tx mg) (D_need_firing : Fn P w K mg base 11 "need_firing" ["plant","story","firing"] Fb) : Fn P w K mg base 12 "steam_by" ["plant","story","firing"] Fc := by
 refine F.fn Re (fun vs H Q E h => ?_) (fun f cdv A outer s H vs Q E hr h => ?_)
 ·unfold Fc at h; split at h; rfl; exact h.elim
 refine ⟨_,(Aj (Cc (Ag D_need_firing (hr.mono (by decide)) rfl (AL (cx 0 (by rfl)) (cx 1 (by rfl)) (cx 2 (by rfl)) (by rfl)) (by decide) (by rfl) (by rfl)) (by rfl)) (Al (Ao (Bi (Bu K (by rfl)) rfl T.b_tuple Bn (Aq (A4 ["boiler","firing"] [none,some 2] rfl (BU rfl T.b_range (Aq (AB (Bb K (by rfl)) rfl T.b_len PySem.boot_len (Aq (AF (AV K (by rfl)) (cx 0 (by rfl)) Af (fun _ _ => rfl)) (by rfl)) (by decide) (by decide) (by rfl) (by rfl)) (by rfl)) (by rfl)) (AG.of rfl) (fun _ _ _ _ => (Ak 0 (Az (by rfl)) (by rfl))) (fun _ _ _ _ => A3) (fun _ _ _ _ => (AB (DJ rfl) rfl T.b_sum boot_sum (Aq (A4 ["row","boiler"] [none,some 0] rfl (Bz K (cx 1 (by rfl)) (by rfl)) (AG.of rfl) (fun _ _ _ _ => (Ak 0 (Az (by rfl)) (by rfl))) (fun _ _ _ _ => A3) (fun _ _ _ _ => (AF (AV K (by rfl)) (cx 0 (by rfl)) (cx 1 (by rfl)) (fun _ _ => rfl))) (by intro _; rfl)) (by rfl)) (by decide) (by decide) (by rfl) (by rfl))) (by intro _; rfl)) (by rfl)) (by decide) (by decide) (by rfl) (by rfl))))),?_⟩
 unfold Fc at h
 split at h
 ·rename_i v u w
  obtain ⟨p,P,S,F,tr,q⟩ := h
  refine ⟨p,P,S,F,tr,fun H1 s1 => ?_⟩
  have t1 := tr.sm s1
  have x8 := tr.so.x8
  have b4 := tr.ok.b4
  have fl := tr.fo.len
  obtain ⟨PA,PB,PE,PM,xb,xe,rfl,pA,pB,rb,pE,re,pM⟩ := Aa.plant t1.r
  obtain ⟨FA,fx,rfl,hF,rx⟩ := Aa.firing t1.rw
  have lb := rb.len
  rw [List.length_map] at lb
  have lx := rx.len
  rw [List.length_map] at lx
  refine ⟨PA,_,0,.ref PB,rfl,rfl,Ad.of pA,rfl,PB,_,rfl,.inr (Ad.of pB),_,rfl,by omega,by omega,DZ (n := xb.length) (fun i ys H' => Ab H1 H' /\ ys = ((BA P F).take i).map V.int) (by omega) ⟨Ab.refl _,rfl⟩ (fun i ys H' h => by rw [h.2,List.length_map,List.length_take]; omega) (fun i ys H' hi h => ?_) fun ys H' h => ?_⟩
  ·refine ⟨⟨rfl,trivial⟩,fun _ => ?_,fun z => by cases z⟩
   refine ⟨FA,rfl,⟨fx,Ad.of (h.1 _ _ hF)⟩,BO (xs := fx) (fun j zs H2 => Ab H1 H2 /\ zs = ((F.take j).map fun r => r.getD i 0).map V.int) (by omega) ⟨h.1,rfl⟩ (fun j zs H2 h => by rw [h.2,List.length_map,List.length_map,List.length_take]; omega) (fun j zs H2 _ h => Ad.of (h.1 _ _ hF)) (fun j x zs H2 hx h2 => ?_) fun zs H2 h2 => ?_⟩
   ·obtain ⟨r,hr,rr⟩ := Ac.mapGot rx hx
    obtain ⟨ra,rfl,hra⟩ := Aa.ofRow (Aa.ev (Ev.same h2.1) _ _ rr)
    have hlr := tr.fo.row j r hr
    have hg : r[i]? = some (r.getD i 0) := by rw [List.getD_eq_getElem?_getD,List.getElem?_eq_getElem (by omega)]; rfl
    refine ⟨⟨rfl,trivial⟩,fun _ => ⟨ra,_,_,.int (r.getD i 0),rfl,rfl,Ad.of hra,?_,h2.1,?_⟩,fun z => by cases z⟩
    ·rw [Int.zero_add]
     exact Dg (by rw [List.getElem?_map,hg]; rfl)
    ·rw [A2 hr,List.map_append,List.map_append,h2.2]; rfl
   ·intro m hm
    refine ⟨m,F.map fun r => r.getD i 0,rfl,.inl ?_,h2.1.trans (Ab.new hm),?_⟩
    ·rw [Ai,h2.2,List.take_of_length_le (by omega)]
    ·have hg : (BA P F)[i]? = some (F.map fun r => r.getD i 0).sum := by unfold BA; rw [List.getElem?_map,List.getElem?_range (by omega)]; rfl
     rw [A2 hg,List.map_append,h.2]; rfl
  ·intro m hm
   refine ⟨m,_,rfl,.inl ⟨Am.of Ai,fun t ht => ?_⟩⟩
   refine q _ _ (s1.trans (h.1.trans ((Ab.new hm).trans (Ab.new ht)))) (Aa.row ?_)
   rw [Ai,h.2,List.take_of_length_le (by unfold BA; rw [List.length_map,List.length_range]; omega)]
 ·exact h.elim
end
def Rg : List PyData -> List Int -> Bool
 | [],[] => true
 | d :: ds,j :: r => (match d with | .int i => i == j | _ => false) && Rg ds r
 | _,_ => false
def GH : Sp := fun vs H Q _ => match vs with | [v,u,w] => ∃ p P S F,Tri p H P S F v u w /\ ∀ H',Ab H H' -> Q (.int (coal P F)) H' | _ => False
section
variable {P : Program} {w : World} {K : PySem.W.Frag} {mg : Str -> Option Value} {base : Heap}
theorem sc_coal_of : Aw ["plant","story","firing","made"] ["plant","story","firing"] (Ap s_coal_of) := Ax
theorem Rh (F : Df K mg "coal_of" s_coal_of ["plant","story","firing"]) (T : Tx mg) (D_steam_by : Fn P w K mg base 12 "steam_by" ["plant","story","firing"] Fc) : Fn P w K mg base 13 "coal_of" ["plant","story","firing"] GH := by
 refine F.fn sc_coal_of (fun vs H Q E h => ?_) (fun f cdv A outer s H vs Q E hr h => ?_)
 ·unfold GH at h; split at h; rfl; exact h.elim
 refine ⟨_,(Aj (AE (i := 3) sc_coal_of.nd rfl (AA (by rfl)) (Ag D_steam_by (hr.mono (by decide)) rfl (AL (cx 0 (by rfl)) (cx 1 (by rfl)) (cx 2 (by rfl)) (by rfl)) (by decide) (by rfl) (by rfl)) (by rfl) (AR (by rfl))) (Al (Ao (AB (DJ rfl) rfl T.b_sum boot_sum (Aq (A4 ["units","make","coal"] [none,none,none] rfl (Ec P w K rfl T.b_zip (As (cx 3 (by rfl)) (AF (AV K (by rfl)) (cx 0 (by rfl)) Af (fun _ _ => rfl)) (by rfl)) (by rfl) (by rfl) (by rfl) (by rfl) (by rfl)) (AG.of rfl) (fun _ _ _ _ => (AD K (n := 2) (Ah (Ak 0 (Az (by rfl)) (by rfl)) (Ah (AD K (n := 2) (Ah (Ak 1 (Az (by rfl)) (by rfl)) (Ah (Ak 2 (Az (by rfl)) (by rfl)) AC (by rfl)) (by rfl)) (by rfl) (by rfl) (by rfl) (by rfl)) AC (by rfl)) (by rfl)) (by rfl) (by rfl) (by rfl) (by rfl))) (fun _ _ _ _ => A3) (fun _ _ _ _ => (Av CY (cx 0 (by rfl)) (cx 2 (by rfl)))) (by intro _; rfl)) (by rfl)) (by decide) (by decide) (by rfl) (by rfl))))),?_⟩
 unfold GH at h
 split at h
 ·rename_i v u w
  obtain ⟨p,P,S,F,tr,q⟩ := h
  have b4 := tr.ok.b4
  refine ⟨p,P,S,F,tr,fun v1 H1 s1 r1 => ?_⟩
  obtain ⟨PA,PB,PE,PM,xb,xe,rfl,pA,pB,rb,pE,re,pM⟩ := Aa.plant (tr.sm s1).r
  obtain ⟨M,rfl,hM⟩ := Aa.ofRow r1
  have lb := rb.len
  rw [List.length_map] at lb
  have ls : (BA P F).length = P.bs.length := by unfold BA; simp
  refine ⟨PA,_,0,.ref PB,rfl,rfl,Ad.of pA,rfl,M,PB,rfl,⟨_,Ad.of hM⟩,⟨_,Ad.of pB⟩,walk_zip (xs := (BA P F).map V.int) (ys := xb) (fun i zs H' => Ab H1 H' /\ zs = ((((BA P F).zip P.bs).take i).map fun q => V.int (q.1 * q.2.2))) (by rw [List.length_map]; omega) (by rw [List.length_map]; omega) ⟨Ab.refl _,rfl⟩
   (fun i zs H' h => by rw [h.2,List.length_map,List.length_take]; omega) (fun i zs H' h => ⟨Ad.of (h.1 _ _ hM),Ad.of (h.1 _ _ pB)⟩) (fun i x y zs H' T hx hy h hT => ?_) fun zs H' h => ?_⟩
  ·rw [List.getElem?_map] at hx
   obtain ⟨c,hcc,rc⟩ := Ac.mapGot rb hy
   cases z1 : (BA P F)[i]? with
   | none => rw [z1] at hx; cases hx
   | some n =>
    rw [z1] at hx
    cases hx
    have s2 := h.1.trans (Ab.new (o := .tup [.int n,y]) hT)
    obtain ⟨l,zs',rfl,hl',rz⟩ := Aa.shape (Aa.ev (Ev.same s2) _ _ rc)
    obtain ⟨y1,y2,rfl,r1',r2⟩ := Ac.two rz
    unfold Aa at r1' r2
    subst r1' r2
    have bc := tr.ok.b c (List.mem_of_getElem? hcc)
    have hz : ((BA P F).zip P.bs)[i]? = some (n,c) := by rw [List.getElem?_zip_eq_some]; exact ⟨z1,hcc⟩
    refine ⟨T,_,rfl,Ad.of Ai,rfl,_,_,rfl,_,_,rfl,l,_,rfl,Ad.of hl',rfl,_,_,rfl,_,_,rfl,rfl,rfl,trivial,fun _ => ⟨.inr ⟨by omega,by omega⟩,s2,?_⟩,fun z => by cases z⟩
    rw [h.2,A2 hz,List.map_append]; rfl
  ·intro m hm
   refine ⟨m,(((BA P F).zip P.bs).map fun (q : Int × Int × Int) => q.1 * q.2.2),rfl,.inl ?_,q _ (s1.trans (h.1.trans (Ab.new hm)))⟩
   rw [Ai,h.2,List.take_of_length_le (by rw [List.length_zip,List.length_map]; omega),List.map_map]; rfl
 ·exact h.elim
end
end MF
end
section
namespace MF
open PySem PySem.Spec PyProof.Rows L2
variable {T : TM} {i : Nat} {S : SY}
def CO (n : Int) (d : PyData) : Bool := match d with
 | .tuple [a,b] => BB b 0 (n - 1) && (match b with | .int l => BB a 0 l | _ => false)
 | _ => false
def Fd (T : TM) (d : PyData) : Bool := CO T.ds.length d && (match d with | .tuple [.int f,.int l] => Bv T f.toNat l.toNat | _ => false)
theorem K1 {n : Int} {d : PyData} (h : CO n d = true) : ∃ f l : Nat,d = pD (f,l) /\ f <= l /\ (l : Int) < n := by
 cases d <;> first | cases h | skip
 rename_i ds
 match ds,h with
 | [a,b],h =>
  unfold CO at h
  dsimp only at h
  cases b <;> first | cases h | skip
  rename_i l
  obtain ⟨h1,h2⟩ := Bool.and_eq_true_iff.mp h
  dsimp only at h2
  cases a <;> first | cases h2 | skip
  rename_i f
  unfold BB at h1 h2
  dsimp only at h1 h2
  obtain ⟨a1,a2⟩ := Bool.and_eq_true_iff.mp h1
  obtain ⟨b1,b2⟩ := Bool.and_eq_true_iff.mp h2
  have a1 := of_decide_eq_true a1
  have a2 := of_decide_eq_true a2
  have b1 := of_decide_eq_true b1
  have b2 := of_decide_eq_true b2
  obtain ⟨F,rfl⟩ : ∃ n : Nat,f = (n : Int) := ⟨f.toNat,by omega⟩
  obtain ⟨L,rfl⟩ : ∃ n : Nat,l = (n : Int) := ⟨l.toNat,by omega⟩
  exact ⟨F,L,rfl,by omega,by omega⟩
 | [],h => cases h
 | [_],h => cases h
 | _ :: _ :: _ :: _,h => cases h
theorem Ri {n f l : Nat} (h : f <= l) (hl : l < n) : CO (n : Int) (pD (f,l)) = true := by
 unfold CO
 dsimp only
 rw [BS (by omega) (by omega),BS (by omega) (by omega)]; rfl
theorem Ik {f l : Nat} (hl : l < T.ds.length) : Fd T (pD (f,l)) = (decide (f <= l) && Bv T f l) := by
 unfold Fd
 by_cases c : f <= l
 ·rw [Ri c hl,decide_eq_true c]; rfl
 ·have e : CO (T.ds.length : Int) (pD (f,l)) = false := by
   cases z : CO (T.ds.length : Int) (pD (f,l)) with
   | false => rfl
   | true =>
    obtain ⟨F,L,e,h1,h2⟩ := K1 z
    injection e with e
    injection e with e1 e2
    injection e2 with e2 _
    injection e1 with e1
    injection e2 with e2
    omega
  rw [e,decide_eq_false c]; rfl
def GI : Sp := fun vs H Q _ => match vs with | [.int n,v] => ∃ p d,Aa p H d v /\ ∀ b H',b = CO n d -> Ab H H' -> Q (.bl b) H' | _ => False
def Fe : Sp := fun vs H Q _ => match vs with | [v,u] => ∃ p T d,TM.ok T /\ Aa p H T.d v /\ Aa p H d u /\ ∀ b H',b = Fd T d -> Ab H H' -> Q (.bl b) H' | _ => False
theorem K2 {q : Nat × Nat} (h : AO T = some q) : q.1 <= q.2 /\ q.2 < T.ds.length /\ Bv T q.1 q.2 = true := by
 unfold AO at h
 have m : q ∈ Dm T := List.mem_of_head? h
 unfold Dm at m
 obtain ⟨m1,m2⟩ := List.mem_filter.mp m
 obtain ⟨h1,h2⟩ := HK (Nat.le_refl _) q m1
 exact ⟨h1,h2,m2⟩
def GJ : Sp := fun vs H Q _ => match vs with | [v,x] => ∃ p T d,TM.ok T /\ Aa p H T.d v /\ Aa p H d x /\ ((A9 d 3 3 = false /\ ∀ H',Ab H H' -> Q (.bl false) H') \/ (∃ q : Nat × Nat,d = .tuple [.str "short",.int q.1,.int q.2] /\ q.1 <= q.2 /\ q.2 < T.ds.length /\ ∀ H',Ab H H' -> Q (.bl (Bv T q.1 q.2)) H')) | _ => False
def GK : Sp := fun vs H Q _ => match vs with | [v,u] => ∃ p P S,PL.ok P /\ SY.ok S P.bs.length /\ Aa p H P.d v /\ Aa p H S.d u /\ (AO (terms P S) ≠ none -> ∀ H',Ab H H' -> Q .non H') /\ (AO (terms P S) = none -> ∀ f ps H',Cp (terms P S) f ps -> Ab H H' -> Q (.int f) H') | _ => False
theorem Rj {a b c : V} : BE [a,b,c] (some 1) none = [b,c] := HM
theorem Rk {X : Cx} {j : Nat} {p q : Pos} : PE X (.UnaryOp .USub (.Constant (.int 1) j p) q) (tC (.int (-1))) := (LX LZ Af).weak fun σ H Q z => ⟨1,rfl,z⟩
def CP (n : Nat) (c : List Int) : List (List Int) := if c = [] then [] else BQ n (c.length - 1)
def K3 (n : Nat) (T : TM) (c : List Int) : PyData := .tuple [.str "lit",AH c,FD (only T c).cs,.tuple ((CP n c).map fun d => DL (AO (only T d)))]
def K4 (q : Nat × Nat) : PyData := .tuple [.str "short",.int q.1,.int q.2]
def Ex (P : PL) (S : SY) : PyData := match AO (terms P S) with
 | some q => K4 q
 | none => match DP P.bs.length (BJ (terms P S)) with | some c => K3 P.bs.length (terms P S) c | none => .none
def Ey (n : Nat) (b : Int) : List Int := (AX n).filter fun x => decide (x ≠ b)
def DT (n : Nat) (T : TM) : List Int := (AX n).filter fun b => !BJ T (Ey n b)
def GL : Sp := fun vs H Q _ => match vs with | [v,u] => ∃ p P S q,PL.ok P /\ SY.ok S P.bs.length /\ AO (terms P S) = some q /\ Aa p H P.d v /\ Aa p H S.d u /\ ret H Q p (K4 q) | _ => False
def GM : Sp := fun vs H Q _ => match vs with | [x] => ∃ p c,c.Pairwise (· < ·) /\ c.length <= 1000 /\ Aa p H (AH c) x /\ ∀ H',Ab H H' -> Q (.bl true) H' | _ => False
def Ff : Sp := fun vs H Q _ => match vs with | [.int m,x] => ∃ p n c,m = ((n : Nat) : Int) /\ n <= 4 /\ IsSet n c /\ Aa p H (AH c) x /\ ∀ H',Ab H H' -> Q (.bl true) H' | _ => False
def GN : Sp := fun vs H Q _ => match vs with | [x] => ∃ p c,Aa p H (AH c) x /\ ∀ H',Ab H H' -> Q (.int (B2 c)) H' | _ => False
def Fg : Sp := fun vs H Q _ => match vs with | [.int m,.int j] => ∃ p n k,m = ((n : Nat) : Int) /\ j = ((k : Nat) : Int) /\ n <= 4 /\ k <= 4 /\ ∀ R H' xs,Ab H H' -> H R = none -> H' R = some (.lst xs) -> Ac p H' ((BQ n k).map AH) xs -> Q (.ref R) H' | _ => False
def Il : Sp := fun vs H Q _ => match vs with | [t,x] => ∃ p T c,Bw T /\ Aa p H T.d t /\ Aa p H (AH c) x /\ ret H Q p (only T c).d | _ => False
def Fh : Sp := fun vs H Q _ => match vs with | [t,x] => ∃ p T c,Bw T /\ Aa p H T.d t /\ Aa p H (AH c) x /\ ∀ H',Ab H H' -> Q (.bl (BJ T c)) H' | _ => False
def Fi : Sp := fun vs H Q _ => match vs with | [.int m,x] => ∃ p n c,m = ((n : Nat) : Int) /\ n <= 4 /\ IsSet n c /\ Aa p H (AH c) x /\ ∀ R H' xs,Ab H H' -> H R = none -> H' R = some (.lst xs) -> Ac p H' ((CP n c).map AH) xs -> Q (.ref R) H' | _ => False
def GO : Sp := fun vs H Q _ => match vs with | [v,u] => ∃ p P S,PL.ok P /\ SY.ok S P.bs.length /\ Aa p H P.d v /\ Aa p H S.d u /\ ret H Q p (Ex P S) | _ => False
def GP : Sp := fun vs H Q _ => match vs with | [t,.ref R,x] => ∃ p T,∃ cs : List (List Int),∃ xs,Bw T /\ cs.length <= 100 /\ (∀ c ∈ cs,AO (only T c) ≠ none) /\ Aa p H T.d t /\ H R = some (.lst xs) /\ Ac p H (cs.map AH) xs /\ Aa p H (.tuple (cs.map fun d => DL (AO (only T d)))) x /\ ∀ H',Ab H H' -> Q (.bl true) H' | _ => False
def GQ : Sp := fun vs H Q _ => match vs with | [v,u,x] => ∃ p P S c,PL.ok P /\ SY.ok S P.bs.length /\ DP P.bs.length (BJ (terms P S)) = some c /\ Aa p H P.d v /\ Aa p H S.d u /\ Aa p H (K3 P.bs.length (terms P S) c) x /\ ∀ H',Ab H H' -> Q (.bl true) H' | _ => False
def GR : Sp := fun vs H Q _ => match vs with | [v,u,x] => ∃ p P S,PL.ok P /\ SY.ok S P.bs.length /\ Aa p H P.d v /\ Aa p H S.d u /\ Aa p H (Ex P S) x /\ ∀ H',Ab H H' -> Q (.bl true) H' | _ => False
def GS : Sp := fun vs H Q _ => match vs with | [v,u,x] => ∃ p P S c,PL.ok P /\ SY.ok S P.bs.length /\ IsSet P.bs.length c /\ Aa p H P.d v /\ Aa p H S.d u /\ Aa p H (AH c) x /\ (AO (only (terms P S) c) ≠ none -> ∀ H',Ab H H' -> Q .non H') /\ (AO (only (terms P S) c) = none -> ∀ f ps H',Cp (only (terms P S) c) f ps -> Ab H H' -> Q (.int f) H') | _ => False
def GT : Sp := fun vs H Q _ => match vs with | [.int m,.int b] => ∃ p n,m = ((n : Nat) : Int) /\ n <= 4 /\ ret H Q p (AH (Ey n b)) | _ => False
def GU : Sp := fun vs H Q _ => match vs with | [v,u] => ∃ p P S,PL.ok P /\ SY.ok S P.bs.length /\ Aa p H P.d v /\ Aa p H S.d u /\ ret H Q p (AH (DT P.bs.length (terms P S))) | _ => False
theorem GV {p : Int -> Bool} : (AX (i + 1)).filter p = if p (i : Int) = true then (AX i).filter p ++ [(i : Int)] else (AX i).filter p := by
 have e : AX (i + 1) = AX i ++ [(i : Int)] := by unfold AX; rw [List.range_succ,List.map_append]; rfl
 rw [e,List.filter_append]
 by_cases h : p (i : Int) = true
 ·rw [if_pos h,List.filter_cons_of_pos h]; rfl
 ·rw [if_neg h,List.filter_cons_of_neg h]; simp
theorem Rl {n : Nat} {p : List Int -> Bool} {c : List Int} (h : DP n p = some c) : ∃ l,(B3 n (n + 1)).filter p = c :: l := by
 have e : ((B3 n (n + 1)).filter p).head? = some c := by rw [List.head?_filter]; exact h
 cases z : (B3 n (n + 1)).filter p with
 | nil => rw [z] at e; cases e
 | cons a l => rw [z] at e; cases e; exact ⟨l,rfl⟩
theorem Im {P : PL} (ok : P.ok) (so : S.ok P.bs.length) : only (terms P S) (AX P.bs.length) = terms P S := by
 refine Px fun r hr b hb => allB_mem.mpr ⟨by omega,?_⟩
 have := ((CL ok so).c r hr).1
 rw [show (terms P S).co.length = P.bs.length from by show (P.bs.map (·.2)).length = _; rw [List.length_map]] at this
 omega
theorem Io {P : PL} (ok : P.ok) (so : S.ok P.bs.length) (no : AO (terms P S) = none) : ∃ c,DP P.bs.length (BJ (terms P S)) = some c := by
 refine Pz (c := AX P.bs.length) KK ?_
 unfold BJ
 rw [Im ok so,no]; rfl
theorem DU {l : List Int} {x : V} (h : (l.map V.int)[i]? = some x) : ∃ m,l[i]? = some m /\ x = .int m := by
 rw [List.getElem?_map] at h
 cases z : l[i]? with
 | none => rw [z] at h; cases h
 | some m => rw [z] at h; cases h; exact ⟨m,rfl,rfl⟩
theorem Rm {α β : Type} {f : α -> List β} {l : List α} {a : Nat} : ((l.take a).flatMap f).length <= (l.flatMap f).length := by
 conv => rhs; rw [<- List.take_append_drop a l,List.flatMap_append,List.length_append]
 exact Nat.le_add_right _ _
theorem K9 : ∀ {c : List Int},c.Pairwise (· < ·) -> ∀ {i : Nat} {a b : Int},c[i]? = some a -> c[i + 1]? = some b -> a < b
 | [],_,_,_,_,h,_ => by cases h
 | x :: c,h,0,a,b,ha,hb => by
  cases ha
  exact (List.pairwise_cons.mp h).1 b (List.mem_of_getElem? (show c[0]? = some b from hb))
 | x :: c,h,i + 1,a,b,ha,hb => K9 (List.pairwise_cons.mp h).2 (i := i) ha hb
theorem Rn {c r : List Int} {j : Nat} {m : Int} (h : r[j]? = some m) : (Bh c r)[j]? = some (if (j : Int) ∈ c then m else 0) := by
 unfold Bh
 rw [List.getElem?_map,List.getElem?_zipIdx,h]; simp
section
variable {P : Program} {w : World} {K : PySem.W.Frag} {mg : Str -> Option Value} {base : Heap}
theorem sc_is_stretch : Aw ["hours","thing","first","last"] ["hours","thing"] (Ap s_is_stretch) := Ax
theorem Ro (F : Df K mg "is_stretch" s_is_stretch ["hours","thing"]) (T : Tx mg) (D_is_tuple_of : BR P w K mg base) (D_is_whole_from : C7 P w K mg base) : Fn P w K mg base 3 "is_stretch" ["hours","thing"] GI := by
 refine F.fn sc_is_stretch (fun vs H Q E h => ?_) (fun f cdv A outer s H vs Q E hr h => ?_)
 ·unfold GI at h; split at h; rfl; exact h.elim
 refine ⟨_,(Aj (A1 (BT (BG (Ag D_is_tuple_of (hr.mono (by decide)) rfl (Be (cy 1) Af Af)))) (Al (Ao BC)) AY) (Aj (A7 (cy 1) (AD K (n := 2) (Ah (AI 2 sc_is_stretch.nd) (Ah (AI 3 sc_is_stretch.nd) AC)))) (Al (Ao (AZ (Ag D_is_whole_from (hr.mono (by decide)) rfl (Be (cy 3) Af (Av BF (cy 0) Af))) (Bl (Ag D_is_whole_from (hr.mono (by decide)) rfl (Be (cy 2) Af (cy 3))))))))),?_⟩
 unfold GI at h
 split at h
 ·rename_i n v
  obtain ⟨p,d,r,q⟩ := h
  refine ⟨p,d,r,fun b hb => ⟨fun c => ?_,fun c => ?_⟩⟩
  ·refine q false H ?_ (Ab.refl _)
   have e : A9 d 2 2 = false := by rw [<- hb]; simpa using c
   cases d <;> first | rfl | skip
   rename_i ds
   match ds,e with
   | [a,b],e => cases e
   | [],_ => rfl
   | [_],_ => rfl
   | _ :: _ :: _ :: _,_ => rfl
  ·have e : A9 d 2 2 = true := by rw [<- hb]; simpa using c
   obtain ⟨ds,rfl⟩ := DS e
   obtain ⟨a,b,rfl⟩ := two e
   obtain ⟨l,xs,rfl,hl,rs⟩ := Aa.shape r
   obtain ⟨x,y,rfl,rx,ry⟩ := Ac.two rs
   refine ⟨l,[x,y],rfl,Ad.of hl,rfl,x,[y],rfl,y,[],rfl,rfl,p,b,ry,fun b1 e1 => ⟨fun c1 => ?_,fun c1 => ?_⟩⟩
   ·rw [c1] at e1
    cases b <;> first | cases e1 | skip
    rename_i li
    unfold Aa at ry
    subst ry
    refine ⟨p,a,rx,fun b2 e2 => ?_⟩
    exact q _ _ (by unfold CO; dsimp only; rw [e2,<- e1]; rfl) (Ab.refl _)
   ·exact q _ _ (by unfold CO; dsimp only; rw [<- e1,c1]; rfl) (Ab.refl _)
 ·exact h.elim
theorem sc_is_shown : Aw ["terms","thing","caps","coals","draws","main"] ["terms","thing"] (Ap s_is_shown) := Ax
theorem Rp (F : Df K mg "is_shown" s_is_shown ["terms","thing"]) (T : Tx mg) (D_is_stretch : Fn P w K mg base 3 "is_stretch" ["hours","thing"] GI) (D_is_too_much : Fn P w K mg base 1 "is_too_much" ["terms","stretch"] E7) : Fn P w K mg base 4 "is_shown" ["terms","thing"] Fe := by
 refine F.fn sc_is_shown (fun vs H Q E h => ?_) (fun f cdv A outer s H vs Q E hr h => ?_)
 ·unfold Fe at h; split at h; rfl; exact h.elim
 refine ⟨_,(Aj (A7 (cy 0) (AD K (n := 4) (Ah (AI 2 sc_is_shown.nd) (Ah (AI 3 sc_is_shown.nd) (Ah (AI 4 sc_is_shown.nd) (Ah (AI 5 sc_is_shown.nd) AC)))))) (Al (Ao (AZ (Ag D_is_stretch (hr.mono (by decide)) rfl (AS (AB (Bb K) rfl T.b_len PySem.boot_len (AJ (cy 4))) (cy 1))) (Bl (Ag D_is_too_much (hr.mono (by decide)) rfl (AS (cy 0) (cy 1)))))))),?_⟩
 unfold Fe at h
 split at h
 ·rename_i v u
  obtain ⟨p,T,d,ok,r,ru,q⟩ := h
  obtain ⟨A,C,B,D,M,xc,rfl,hA,hC,rc,hB,hD,hM⟩ := Aa.terms r
  refine ⟨A,_,rfl,Ad.of hA,rfl,_,_,rfl,_,_,rfl,_,_,rfl,_,_,rfl,rfl,?_⟩
  refine ⟨D,_,rfl,.inr (Ad.of hD),p,d,ru,fun b H1 e1 s1 => ⟨fun c => ?_,fun c => ?_⟩⟩
  ·rw [c,List.length_map] at e1
   obtain ⟨f,l,rfl,hfl,hl⟩ := K1 e1.symm
   refine ⟨p,T,f,l,ok,Aa.ev (Ev.same s1) _ _ r,Aa.ev (Ev.same s1) _ _ ru,hfl,by omega,fun H2 s2 => q _ _ ?_ (s1.trans s2)⟩
   rw [Ik (by omega),decide_eq_true hfl]; rfl
  ·rw [c,List.length_map] at e1
   refine q _ _ ?_ s1
   unfold Fd
   rw [<- e1]; rfl
 ·exact h.elim
theorem Rq : Aw ["terms","caps","coals","draws","low","high","start","firing","mains","hour"] ["terms"] (Ap s_least_firing) := Ax
def Le : Sp := fun _ _ _ _ => False
theorem Rr (F : Df K mg "least_firing" s_least_firing ["terms"]) (T : Tx mg) : Fn P w K mg base 1 "least_firing" ["terms"] Le := F.fn Rq (fun _ _ _ _ h => h.elim) (fun _ _ _ _ _ _ _ _ _ _ h => h.elim)
theorem Rs : Aw ["terms","thing"] ["terms","thing"] (Ap s_is_short_paper) := Ax
theorem Rt (F : Df K mg "is_short_paper" s_is_short_paper ["terms","thing"]) (T : Tx mg) (D_is_shown : Fn P w K mg base 4 "is_shown" ["terms","thing"] Fe) (D_is_tuple_of : BR P w K mg base) : Fn P w K mg base 5 "is_short_paper" ["terms","thing"] GJ := by
 refine F.fn Rs (fun vs H Q E h => ?_) (fun f cdv A outer s H vs Q E hr h => ?_)
 ·unfold GJ at h; split at h; rfl; exact h.elim
 refine ⟨_,(Al (Ao (AZ (Ag D_is_tuple_of (hr.mono (by decide)) rfl (Be (cy 1) Af Af)) (AZ (BM Ct (AF (AV K) (cy 1) Af (fun _ _ => rfl)) BD (AQ _)) (Bl (Ag D_is_shown (hr.mono (by decide)) rfl (AS (cy 0) (De s_tup (cy 1) (Cm Af) Fy)))))))),?_⟩
 unfold GJ at h
 split at h
 ·rename_i v x
  obtain ⟨p,T,d,ok,r,rd,q⟩ := h
  rcases q with ⟨e,q⟩ | ⟨s0,rfl,h1,h2,q⟩
  ·refine ⟨p,d,rd,fun b hb => ⟨fun c => absurd (hb.symm.trans c) (by rw [e]; decide),fun c => ?_⟩⟩
   exact q _ (Ab.refl _)
  ·refine ⟨p,_,rd,fun b hb => ?_⟩
   have e : b = true := hb
   subst e
   obtain ⟨A,xs,rfl,hA,rs⟩ := Aa.shape rd
   obtain ⟨y1,y2,y3,rfl,r1,r2,r3⟩ := Ac.three rs
   unfold Aa at r1 r2 r3
   subst r1 r2 r3
   refine ⟨fun _ => ⟨A,_,0,.str "short",rfl,rfl,Ad.of hA,rfl,rfl,⟨fun _ => ?_,fun c => absurd c (by decide +kernel)⟩⟩,fun c => (by cases c)⟩
   refine ⟨1,rfl,A,_,rfl,hA,fun t H1 s1 k1 => ?_⟩
   rw [Rj] at k1
   refine ⟨p,T,pD s0,ok,Aa.ev (Ev.same s1) _ _ r,Aa.tup k1 (.cons Aa.int (.cons Aa.int .nil)),fun b H2 e s2 => ?_⟩
   have e' : b = Bv T s0.1 s0.2 := by rw [e,Ik h2,decide_eq_true h1,Bool.true_and]
   rw [e']
   exact q _ (s1.trans s2)
 ·exact h.elim
theorem Ru : Aw ["plant","story"] ["plant","story"] (Ap s_least_coal) := Ax
theorem Rv (F : Df K mg "least_coal" s_least_coal ["plant","story"]) (T : Tx mg) (D_coal_under : Fn P w K mg base 4 "coal_under" ["terms"] E8) (D_terms_of : Du P w K mg base) : Fn P w K mg base 11 "least_coal" ["plant","story"] GK := by
 refine F.fn Ru (fun vs H Q E h => ?_) (fun f cdv A outer s H vs Q E hr h => ?_)
 ·unfold GK at h; split at h; rfl; exact h.elim
 refine ⟨_,(Al (Ao (Ag D_coal_under (hr.mono (by decide)) rfl (AJ (Ag D_terms_of (hr.mono (by decide)) rfl (AS (cy 0) (cy 1))))))),?_⟩
 unfold GK at h
 split at h
 ·rename_i v u
  obtain ⟨p,P,S,ok,so,r,ru,q1,q2⟩ := h
  refine ⟨p,P,S,ok,so,r,ru,fun t H1 s1 rt => ⟨p,terms P S,CL ok so,rt,fun n H2 s2 => q1 n _ (s1.trans s2),fun n f ps H2 hf s2 => q2 n f ps _ hf (s1.trans s2)⟩⟩
 ·exact h.elim
theorem sc_cheapest : Aw ["plant","story","terms","stretch","coal","prices"] ["plant","story"] (Ap s_cheapest) := Ax
theorem Rw (F : Df K mg "cheapest" s_cheapest ["plant","story"]) (T : Tx mg) (D_highest_floor : Fn P w K mg base 3 "highest_floor" ["terms"] E6) (D_least_firing : Fn P w K mg base 1 "least_firing" ["terms"] Le) (D_least_stretch : E9 P w K mg base) (D_terms_of : Du P w K mg base) : Fn P w K mg base 11 "cheapest" ["plant","story"] GL := by
 refine F.fn sc_cheapest (fun vs H Q E h => ?_) (fun f cdv A outer s H vs Q E hr h => ?_)
 ·unfold GL at h; split at h; rfl; exact h.elim
 refine ⟨_,(Aj (AE (i := 2) sc_cheapest.nd rfl (AA (by rfl)) (Ag D_terms_of (hr.mono (by decide)) rfl (AS (cy 0) (cy 1)))) (Aj (AE (i := 3) sc_cheapest.nd rfl (AA (by rfl)) (Ag D_least_stretch (hr.mono (by decide)) rfl (AJ (cy 2)))) (Aj (A1 (AW Fu (cy 3) Ck (AQ _)) (Al (Ao (Av DG (B0 (AJ BD)) (cy 3)))) AY) (Aj (A7 (Ag D_highest_floor (hr.mono (by decide)) rfl (AJ (cy 2))) (AD K (n := 2) (Ah (AI 4 sc_cheapest.nd) (Ah (AI 5 sc_cheapest.nd) AC)))) (Al (Ao (B0 (HI BD (cy 4) (Ag D_least_firing (hr.mono (by decide)) rfl (AJ (cy 2))) (cy 5))))))))),?_⟩
 unfold GL at h
 split at h
 ·rename_i v u
  obtain ⟨p,P,S,s0,ok,so,z,r,ru,q⟩ := h
  refine ⟨p,P,S,ok,so,r,ru,fun t H1 s1 rt => ⟨p,terms P S,ER so,rt,fun w H2 s2 rw2 => ⟨rfl,?_⟩⟩⟩
  rw [z] at rw2
  obtain ⟨A',rfl,hA⟩ := Aa.pair rw2
  refine ⟨fun _ => ?_,fun c => (by simp at c)⟩
  refine fun t H3 s3 kt => ⟨t,A',_,_,rfl,rfl,kt,s3 _ _ hA,(show 1 + 2 <= 1000 by decide),fun e H4 s4 ke => q _ _ (s1.trans (s2.trans (s3.trans s4))) (Aa.tup ke (.cons Aa.str (.cons Aa.int (.cons Aa.int .nil))))⟩
 ·exact h.elim
theorem Rx : Aw ["parts"] ["parts"] (Ap s_is_rising) := Ax
theorem Ry (F : Df K mg "is_rising" s_is_rising ["parts"]) (T : Tx mg)  : Fn P w K mg base 1 "is_rising" ["parts"] GM := by
 refine F.fn Rx (fun vs H Q E h => ?_) (fun f cdv A outer s H vs Q E hr h => ?_)
 ·unfold GM at h; split at h; rfl; exact h.elim
 refine ⟨_,(Al (Ao (AB (CZ rfl) rfl T.b_all boot_all (AJ (A4 ["ahead","part"] [none,none] rfl (J1 (On P w K rfl T.b_zip (AS (cy 0) (De s_tup (cy 0) (Cm Af) Fy))) (Ec P w K rfl T.b_zip (AS (cy 0) (De s_tup (cy 0) (Cm Af) Fy)))) (AG.of rfl) (fun _ _ _ _ => (AD K (n := 2) (Ah (AI 0 (Az (by rfl))) (Ah (AI 1 (Az (by rfl))) AC)))) (fun _ _ _ _ => A3) (fun _ _ _ _ => (BM DE (cy 0) (cy 1) (AQ _)))))))),?_⟩
 unfold GM at h
 split at h
 ·rename_i x
  obtain ⟨p,ns,up,lk,rx,q⟩ := h
  obtain ⟨A,rfl,hA⟩ := Aa.ofRow rx
  refine (?_ : (_ \/ _) -> _) ?_
  ·exact id
  by_cases e0 : ns = []
  ·subst e0
   refine .inr ⟨1,rfl,A,_,rfl,hA,fun B H1 s1 kB => ?_⟩
   rw [HM] at kB
   refine ⟨A,B,rfl,⟨_,Ad.of (s1 _ _ hA)⟩,⟨_,Ad.of kB⟩,walk_zip (xs := []) (ys := []) (fun i zs H' => H' = H1 /\ zs = []) (by decide) rfl ⟨rfl,rfl⟩ (fun i zs H' h => by rw [h.2]; exact Nat.zero_le _) (fun i zs H' h => by rw [h.1]; exact ⟨Ad.of (s1 _ _ hA),Ad.of kB⟩) (fun i x y zs H' T hx hy h hT => by cases hx) fun zs H' h m hm => ?_⟩
   refine ⟨m,[],rfl,by rw [Ai,h.2]; rfl,?_⟩
   rw [h.1] at hm ⊢
   exact q _ (s1.trans (Ab.new hm))
  ·refine .inl ⟨1,rfl,A,_,rfl,hA,fun B H1 s1 kB => ?_⟩
   rw [HM,<- List.map_drop] at kB
   have l0 : 0 < ns.length := List.length_pos_iff.mpr e0
   refine ⟨A,B,rfl,⟨_,Ad.of (s1 _ _ hA)⟩,⟨_,Ad.of kB⟩,Oo (xs := ns.map V.int) (ys := (ns.drop 1).map V.int) (fun i zs H' => Ab H1 H' /\ zs = List.replicate i (V.bl true)) (by rw [List.length_map,List.length_drop]; omega) (by rw [List.length_map,List.length_map,List.length_drop]; omega) ⟨Ab.refl _,rfl⟩
    (fun i zs H' h => by rw [h.2,List.length_replicate]; omega) (fun i zs H' h => ⟨Ad.of (h.1 _ _ (s1 _ _ hA)),Ad.of (h.1 _ _ kB)⟩) (fun i x y zs H' T hx hy h hT => ?_) fun zs H' h m hm => ?_⟩
   ·obtain ⟨a,ha,rfl⟩ := DU hx
    obtain ⟨b,hb,rfl⟩ := DU hy
    rw [List.getElem?_drop,Nat.add_comm] at hb
    refine ⟨T,_,rfl,Ad.of Ai,rfl,_,_,rfl,_,_,rfl,rfl,trivial,fun _ => ⟨h.1.trans (Ab.new hT),?_⟩,fun c => by cases c⟩
    show zs ++ [V.bl (decide (a < b))] = _
    rw [h.2,decide_eq_true (K9 up ha hb),List.replicate_succ']
   ·refine ⟨m,List.replicate ((ns.drop 1).map V.int).length true,rfl,by rw [Ai,h.2,List.map_replicate],?_⟩
    have ea : (List.replicate ((ns.drop 1).map V.int).length true).all id = true := by simp
    rw [ea]
    exact q _ (s1.trans (h.1.trans (Ab.new hm)))
 ·exact h.elim
theorem Rz : Aw ["boilers","thing"] ["boilers","thing"] (Ap s_is_set) := Ax
theorem RA (F : Df K mg "is_set" s_is_set ["boilers","thing"]) (T : Tx mg) (D_is_rising : Fn P w K mg base 1 "is_rising" ["parts"] GM) (D_is_tuple_of : BR P w K mg base) (D_is_whole_from : C7 P w K mg base) : Fn P w K mg base 3 "is_set" ["boilers","thing"] Ff := by
 refine F.fn Rz (fun vs H Q E h => ?_) (fun f cdv A outer s H vs Q E hr h => ?_)
 ·unfold Ff at h; split at h; rfl; exact h.elim
 refine ⟨_,(Al (Ao (AZ (Ag D_is_tuple_of (hr.mono (by decide)) rfl (Be (cy 1) Af (cy 0))) (AZ (AB (CZ rfl) rfl T.b_all boot_all (AJ (A4 ["part","boilers"] [none,some 0] rfl (Bz K (cy 1)) (AG.of rfl) (fun _ _ _ _ => (AI 0 (Az (by rfl)))) (fun _ _ _ _ => A3) (fun _ _ _ _ => (Ag D_is_whole_from (hr.mono (by decide)) rfl (Be (cy 0) Af (Av BF (cy 1) Af))))))) (Bl (Ag D_is_rising (hr.mono (by decide)) rfl (AJ (cy 1)))))))),?_⟩
 unfold Ff at h
 split at h
 ·rename_i m x
  obtain ⟨p,n,c,rfl,n4,st,rx,q⟩ := h
  obtain ⟨A,rfl,hA⟩ := Aa.ofRow rx
  have cl := st.len
  refine ⟨p,_,rx,fun b hb => ⟨fun _ => ?_,fun z => ?_⟩⟩
  ·refine ⟨A,rfl,⟨_,Ad.of hA⟩,BO (xs := c.map V.int) (fun i ys H' => Ab H H' /\ ys = List.replicate i (V.bl true)) (by rw [List.length_map]; omega) ⟨Ab.refl _,rfl⟩ (fun i ys H' h => by rw [h.2,List.length_replicate]; omega) (fun i ys H' _ h => Ad.of (h.1 _ _ hA)) (fun i x ys H' hx h => ?_) fun ys H' h m hm => ?_⟩
   ·obtain ⟨a,ha,rfl⟩ := DU hx
    obtain ⟨a0,an⟩ := st.bd a (List.mem_of_getElem? ha)
    refine ⟨⟨rfl,trivial⟩,fun _ => ⟨p,.int a,Aa.int,fun b1 e1 => ⟨h.1,?_⟩⟩,fun z => by cases z⟩
    rw [BS a0 (by omega)] at e1
    rw [h.2,e1,List.replicate_succ']
   ·refine ⟨m,List.replicate (c.map V.int).length true,rfl,by rw [Ai,h.2,List.map_replicate],?_⟩
    have ea : (List.replicate (c.map V.int).length true).all id = true := by simp
    rw [ea]
    have s1 := h.1.trans (Ab.new (o := .lst ys) hm)
    exact ⟨fun _ => ⟨p,c,st.up,by omega,Aa.ev (Ev.same s1) _ _ rx,fun H2 s2 => q _ (s1.trans s2)⟩,fun z => by cases z⟩
  ·rw [Dt (by rw [List.length_map]; omega) (by rw [List.length_map]; omega)] at hb
   rw [hb] at z; cases z
 ·exact h.elim
theorem RB : Aw ["chosen"] ["chosen"] (Ap s_first_behind) := Ax
theorem RC (F : Df K mg "first_behind" s_first_behind ["chosen"]) (T : Tx mg)  : Fn P w K mg base 1 "first_behind" ["chosen"] GN := by
 refine F.fn RB (fun vs H Q E h => ?_) (fun f cdv A outer s H vs Q E hr h => ?_)
 ·unfold GN at h; split at h; rfl; exact h.elim
 refine ⟨_,(Al (Ao (DF (KC (cy 0)) (Av A8 (AF (AV K) (cy 0) Rk (fun _ _ => rfl)) Af) Af))),?_⟩
 unfold GN at h
 split at h
 ·rename_i x
  obtain ⟨p,c,rx,q⟩ := h
  obtain ⟨A,rfl,hA⟩ := Aa.ofRow rx
  refine ⟨A,_,rfl,hA,fun z => ?_,fun z => ?_⟩
  ·rcases List.eq_nil_or_concat c with e | ⟨d,y,e⟩
   ·subst e; cases z
   ·rw [List.concat_eq_append] at e
    subst e
    have q' := q H (Ab.refl _)
    rw [H0] at q'
    exact ⟨A,_,-1,.int y,rfl,rfl,Ad.of hA,by rw [List.map_append]; exact Mi _ _,q'⟩
  ·have e : c = [] := by cases c with | nil => rfl | cons a c => cases z
   subst e
   exact q H (Ab.refl _)
 ·exact h.elim
theorem sc_sets_of : Aw ["boilers","many","found","step"] ["boilers","many"] (Ap s_sets_of) := Ax
theorem RD (F : Df K mg "sets_of" s_sets_of ["boilers","many"]) (T : Tx mg) (D_first_behind : Fn P w K mg base 1 "first_behind" ["chosen"] GN) : Fn P w K mg base 2 "sets_of" ["boilers","many"] Fg := by
 refine F.fn sc_sets_of (fun vs H Q E h => ?_) (fun f cdv A outer s H vs Q E hr h => ?_)
 ·unfold Fg at h; split at h; rfl; exact h.elim
 refine ⟨_,(Aj (AE (i := 2) sc_sets_of.nd rfl (AA (by rfl)) (Ej (AJ (B0 BV)))) (Aj (BK PassesOwn.never rfl (BU rfl T.b_range (AJ (cy 1))) (AI 3 sc_sets_of.nd) (Al (HJ (i := 2) ["chosen","boiler","boilers"] [none,none,some 0] sc_sets_of.nd rfl (AA (by rfl)) rfl (Ea K (cy 2)) (AG.of rfl) (fun _ _ _ _ => (AI 0 (Az (by rfl)))) (fun _ _ _ _ => A3) (fun _ _ _ _ => (IH rfl T.b_range (AS (Ag D_first_behind (hr.mono (by decide)) rfl (AJ (cy 0))) (cy 2)))) (fun _ _ _ _ => (AI 1 (Az (by rfl)))) (fun _ _ _ _ => A3) (fun _ _ _ _ => (Av DG (cy 0) (B0 (AJ (cy 1)))))))) (Al (Ao (cy 2))))),?_⟩
 unfold Fg at h
 split at h
 ·rename_i m j
  obtain ⟨p,n,k,rfl,rfl,n4,k4,q⟩ := h
  refine fun e H1 s1 ke L H2 s2 hL kL => ?_
  have s12 := s1.trans s2
  refine ⟨_,rfl,by omega,by omega,Dx (n := (k : Int).toNat) (fun i σ H' => ∃ L xs x3,σ = [some (.int (n : Int)),some (.int (k : Int)),some (.ref L),x3] /\ Ab H H' /\ H L = none /\ H' L = some (.lst xs) /\ Ac p H' ((BQ n i).map AH) xs) ⟨L,_,_,rfl,s12,s1.free hL,kL,.cons (Aa.row (r := []) (s2 _ _ ke)) .nil⟩ (fun i σ H' hi h => ?_) fun σ H' h => ?_⟩
  ·obtain ⟨L,xs,x3,rfl,sm,hL,kL,rs⟩ := h
   have lx := rs.len
   rw [List.length_map] at lx
   have few := Ep n n4 i (by omega)
   have few' := Ep n n4 (i + 1) (by omega)
   refine ⟨L,rfl,⟨_,Am.of kL⟩,Pt (xs := xs) (fun a zs H2 => Ab H' H2 /\ Ac p H2 ((((BQ n i).take a).flatMap (grow n)).map AH) zs) ⟨Ab.refl _,.nil⟩ (fun a zs H2 h => Am.of (h.1 _ _ kL)) (fun a x zs H2 hx h2 => ?_) fun zs H2 h2 => ?_⟩
   ·obtain ⟨c,hc,rc⟩ := Ac.mapGot rs hx
    have st := (mem_sets.mp (List.mem_of_getElem? hc)).1
    obtain ⟨f0,f1,f2⟩ := st.first
    refine ⟨⟨rfl,trivial⟩,fun _ => ?_,fun z => by cases z⟩
    refine ⟨p,c,Aa.ev (Ev.same h2.1) _ _ rc,fun H3 s3 => ⟨_,_,rfl,⟨by omega,by omega,by omega,by omega⟩,?_⟩⟩
    have rc3 := Aa.ev (Ev.same (h2.1.trans s3)) _ _ rc
    obtain ⟨ca,rfl,hca⟩ := Aa.ofRow rc3
    have el := Rm (f := grow n) (l := BQ n i) (a := a)
    have gl : (grow n c).length = ((n : Int) - B2 c).toNat := by unfold grow; simp
    refine JV (n := ((n : Int) - B2 c).toNat) (fun j ys H4 => Ab H' H4 /\ Ac p H4 ((((BQ n i).take a).flatMap (grow n) ++ (grow n c).take j).map AH) ys) ⟨h2.1.trans s3,?_⟩ (fun j ys H4 h => ?_) (fun j ys H4 hj h4 => ?_) fun ys H4 h4 => ?_
    ·rw [List.take_zero,List.append_nil]
     exact Ac.ev (Ev.same s3) _ _ h2.2
    ·have := h.2.len
     rw [List.length_map,List.length_append,List.length_take] at this
     have e1 : ((BQ n i).flatMap (grow n)).length <= 6 := few'
     omega
    ·refine ⟨⟨rfl,rfl,trivial⟩,fun _ => fun t H5 s5 kt => ?_,fun z => by cases z⟩
     have kc : H5 ca = some (.tup (c.map V.int)) := by
      obtain ⟨ca',e,k⟩ := Aa.ofRow (Aa.ev (Ev.same (h4.1.trans s5)) _ _ rc)
      cases e; exact k
     refine ⟨ca,t,_,_,rfl,rfl,kc,kt,by rw [List.length_map]; have := st.len; show c.length + 1 <= 1000; omega,fun u H6 s6 ku => ⟨h4.1.trans (s5.trans s6),?_⟩⟩
     have g : (grow n c)[j]? = some (c ++ [B2 c + (j : Int)]) := by unfold grow; rw [List.getElem?_map,List.getElem?_range hj]; rfl
     rw [A2 g,<- List.append_assoc,List.map_append]
     refine Ac.snoc (Ac.ev (Ev.same (s5.trans s6)) _ _ h4.2) (Aa.row ?_)
     rw [ku,List.map_append]; rfl
    ·refine ⟨h4.1,?_⟩
     rw [A2 hc,List.flatMap_append]
     have e2 : [c].flatMap (grow n) = grow n c := by simp
     rw [e2]
     have h5 := h4.2
     rw [List.take_of_length_le (l := grow n c) (by rw [gl]; exact Nat.le_refl _)] at h5
     exact h5
   ·intro l hl
    have nl := Ab.new (o := .lst zs) hl
    rw [List.take_of_length_le (by omega)] at h2
    exact ⟨l,zs,_,rfl,sm.trans (h2.1.trans nl),sm.free (h2.1.free hl),Ai,Ac.ev (Ev.same nl) _ _ h2.2⟩
  ·obtain ⟨L,xs,x3,rfl,sm,hL,kL,rs⟩ := h
   exact q _ _ _ sm hL kL rs
 ·exact h.elim
theorem sc_with_only : Aw ["terms","chosen","caps","coals","draws","main","kept"] ["terms","chosen"] (Ap s_with_only) := Ax
abbrev Ez (P : Program) (w : World) (K : PySem.W.Frag) (mg : Str -> Option Value) (base : Heap) : Prop := Fn P w K mg base 1 "with_only" ["terms","chosen"] Il
theorem RE (F : Df K mg "with_only" s_with_only ["terms","chosen"]) (T : Tx mg)  : Ez P w K mg base := by
 refine F.fn sc_with_only (fun vs H Q E h => ?_) (fun f cdv A outer s H vs Q E hr h => ?_)
 ·unfold Il at h; split at h; rfl; exact h.elim
 refine ⟨_,(Aj (A7 (cy 0) (AD K (n := 4) (Ah (AI 2 sc_with_only.nd) (Ah (AI 3 sc_with_only.nd) (Ah (AI 4 sc_with_only.nd) (Ah (AI 5 sc_with_only.nd) AC)))))) (Aj (AE (i := 6) sc_with_only.nd rfl (AA (by rfl)) (Bi (Bu K) rfl T.b_tuple Bn (AJ (A4 ["row","chosen"] [none,some 1] rfl (Bz K (cy 2)) (AG.of rfl) (fun _ _ _ _ => (AI 0 (Az (by rfl)))) (fun _ _ _ _ => A3) (fun _ _ _ _ => (Bi (Bu K) rfl T.b_tuple Bn (AJ (A4 ["boiler","cap","chosen"] [none,none,some 1] rfl (Eb P w K rfl T.b_enumerate (AJ (cy 0))) (AG.of rfl) (fun _ _ _ _ => (AD K (n := 2) (Ah (AI 0 (Az (by rfl))) (Ah (AI 1 (Az (by rfl))) AC)))) (fun _ _ _ _ => A3) (fun _ _ _ _ => (DF (AW (DH K) (cy 0) (cy 2) (by with_unfolding_all rfl)) (cy 1) Af)))))))))) (Al (Ao (B0 (HI (cy 6) (cy 3) (cy 4) (cy 5))))))),?_⟩
 unfold Il at h
 split at h
 ·rename_i t x
  obtain ⟨p,T,c,fl,r,rx,q⟩ := h
  obtain ⟨A,C,B,D,M,xc,rfl,hA,hC,rc,hB,hD,hM⟩ := Aa.terms r
  obtain ⟨Z,rfl,hZ⟩ := Aa.ofRow rx
  have l8 := fl.ok.l8
  have lc := fl.ok.lc
  have o4 := fl.o
  have lx := rc.len
  rw [List.length_map] at lx
  refine ⟨A,_,rfl,Ad.of hA,rfl,_,_,rfl,_,_,rfl,_,_,rfl,_,_,rfl,rfl,?_⟩
  refine ⟨C,rfl,⟨_,Ad.of hC⟩,BO (xs := xc) (fun i ys H' => Ab H H' /\ Ac p H' (((T.cs.take i).map (Bh c)).map AH) ys) (by omega) ⟨Ab.refl _,.nil⟩ (fun i ys H' h => by have := h.2.len; rw [List.length_map,List.length_map,List.length_take] at this; omega) (fun i ys H' _ h => Ad.of (h.1 _ _ hC)) (fun i x ys H' hx h => ?_) fun ys H' h m hm => ?_⟩
  ·obtain ⟨r0,hr,rr⟩ := Ac.mapGot rc hx
   obtain ⟨ra,rfl,hra⟩ := Aa.ofRow (Aa.ev (Ev.same h.1) _ _ rr)
   have rl := (fl.c r0 (List.mem_of_getElem? hr)).1
   refine ⟨⟨rfl,trivial⟩,fun _ => ?_,fun z => by cases z⟩
   refine ⟨ra,rfl,⟨_,Ad.of hra⟩,walk_enum (xs := r0.map V.int) (fun j zs H2 => Ab H' H2 /\ zs = ((Bh c r0).take j).map V.int) (by rw [List.length_map]; omega) ⟨Ab.refl _,rfl⟩ (fun j zs H2 h => by rw [h.2,List.length_map,List.length_take]; omega) (fun j zs H2 h => Ad.of (h.1 _ _ hra)) (fun j x zs H2 U hx h2 hU => ?_) fun zs H2 h2 m hm => ?_⟩
   ·obtain ⟨m,hm,rfl⟩ := DU hx
    have nU := Ab.new (o := .tup [.int (j : Int),.int m]) hU
    have s3 := h.1.trans (h2.1.trans nU)
    have g := Rn (c := c) hm
    refine ⟨U,_,rfl,Ad.of Ai,rfl,_,_,rfl,_,_,rfl,rfl,⟨rfl,trivial⟩,fun _ => ⟨Z,_,rfl,.inr (Ad.of (s3 _ _ hZ)),rfl,F5,?_⟩,fun z => by cases z⟩
    rw [if_neg (by decide),EX]
    refine ⟨fun z => ⟨h2.1.trans nU,?_⟩,fun z => ⟨h2.1.trans nU,?_⟩⟩
    ·rw [if_pos (of_decide_eq_true z)] at g
     rw [A2 g,List.map_append,h2.2]; rfl
    ·rw [if_neg (of_decide_eq_false z)] at g
     rw [A2 g,List.map_append,h2.2]; rfl
   ·refine ⟨m,_,rfl,.inl ⟨Am.of Ai,fun l hl => ?_⟩⟩
    have s3 := (h2.1.trans (Ab.new (o := .lst zs) hm)).trans (Ab.new (o := .tup zs) hl)
    refine ⟨h.1.trans s3,?_⟩
    rw [A2 hr,List.map_append,List.map_append]
    refine Ac.snoc (Ac.ev (Ev.same s3) _ _ h.2) (Aa.row ?_)
    rw [Ai,h2.2,List.take_of_length_le (by rw [B9,List.length_map]; exact Nat.le_refl _)]
  ·refine ⟨m,_,rfl,.inl ⟨Am.of Ai,fun l hl => ?_⟩⟩
   have s3 := (h.1.trans (Ab.new (o := .lst ys) hm)).trans (Ab.new (o := .tup ys) hl)
   have s2 := (Ab.new (o := .lst ys) hm).trans (Ab.new (o := .tup ys) hl)
   have kl : upd (upd H' m (.lst ys)) l (.tup ys) l = some (.tup ys) := Ai
   generalize upd (upd H' m (.lst ys)) l (.tup ys) = H3 at s3 s2 kl ⊢
   refine fun t H4 s4 kt => ?_
   have s5 := s3.trans s4
   refine q _ _ s5 ?_
   rw [List.take_of_length_le (by omega)] at h
   refine Aa.tup kt (.cons (Aa.tup (s4 _ _ kl) (Ac.ev (Ev.same (s2.trans s4)) _ _ h.2)) (.cons (Aa.row (s5 _ _ hB)) (.cons (Aa.row (s5 _ _ hD)) (.cons (Aa.tup (s5 _ _ hM) (.cons Aa.int (.cons Aa.int (.cons Aa.int .nil)))) .nil))))
 ·exact h.elim
theorem RF : Aw ["terms","chosen"] ["terms","chosen"] (Ap s_does) := Ax
theorem RG (F : Df K mg "does" s_does ["terms","chosen"]) (T : Tx mg) (D_least_stretch : E9 P w K mg base) (D_with_only : Ez P w K mg base) : Fn P w K mg base 3 "does" ["terms","chosen"] Fh := by
 refine F.fn RF (fun vs H Q E h => ?_) (fun f cdv A outer s H vs Q E hr h => ?_)
 ·unfold Fh at h; split at h; rfl; exact h.elim
 refine ⟨_,(Al (Ao (BM EC (Ag D_least_stretch (hr.mono (by decide)) rfl (AJ (Ag D_with_only (hr.mono (by decide)) rfl (AS (cy 0) (cy 1))))) Ck (AQ _)))),?_⟩
 unfold Fh at h
 split at h
 ·rename_i t x
  obtain ⟨p,T,c,fl,r,rx,q⟩ := h
  refine ⟨p,T,c,fl,r,rx,fun v H1 s1 r1 => ⟨p,only T c,F6 fl.ok,r1,fun w H2 s2 rw2 => ⟨rfl,?_⟩⟩⟩
  have q' := q _ (s1.trans s2)
  unfold BJ at q'
  cases z : AO (only T c) with
  | none =>
   rw [z] at rw2 q'
   have ew : w = .non := by unfold DL at rw2; unfold Aa at rw2; exact rw2
   rw [ew]; exact q'
  | some s0 =>
   rw [z] at rw2 q'
   obtain ⟨A',rfl,hA⟩ := Aa.pair rw2
   exact q'
 ·exact h.elim
theorem RH : Aw ["boilers","chosen"] ["boilers","chosen"] (Ap s_smaller_sets) := Ax
theorem RI (F : Df K mg "smaller_sets" s_smaller_sets ["boilers","chosen"]) (T : Tx mg) (D_sets_of : Fn P w K mg base 2 "sets_of" ["boilers","many"] Fg) : Fn P w K mg base 3 "smaller_sets" ["boilers","chosen"] Fi := by
 refine F.fn RH (fun vs H Q E h => ?_) (fun f cdv A outer s H vs Q E hr h => ?_)
 ·unfold Fi at h; split at h; rfl; exact h.elim
 refine ⟨_,(Al (Ao (DF (KC (cy 1)) (Ag D_sets_of (hr.mono (by decide)) rfl (AS (cy 0) (Av BF (AB (Bb K) rfl T.b_len PySem.boot_len (AJ (cy 1))) Af))) (Ej BV)))),?_⟩
 unfold Fi at h
 split at h
 ·rename_i m x
  obtain ⟨p,n,c,rfl,n4,st,rx,q⟩ := h
  obtain ⟨A,rfl,hA⟩ := Aa.ofRow rx
  have cl := st.len
  refine ⟨A,_,rfl,hA,fun z => ?_,fun z => ?_⟩
  ·have e0 : c ≠ [] := fun e => by rw [e] at z; cases z
   have l0 : 0 < c.length := List.length_pos_iff.mpr e0
   unfold CP at q
   rw [if_neg e0] at q
   exact ⟨A,_,rfl,.inr (Ad.of hA),p,n,c.length - 1,rfl,by rw [List.length_map]; omega,n4,by omega,q⟩
  ·have e0 : c = [] := by cases c with | nil => rfl | cons a c => cases z
   unfold CP at q
   rw [if_pos e0] at q
   exact fun R H' s hR k => q R H' [] s hR k .nil
 ·exact h.elim
theorem sc_fewest : Aw ["plant","story","terms","stretch","boilers","sets","chosen","firing","coals","draws","main","shows"] ["plant","story"] (Ap s_fewest) := Ax
theorem RJ (F : Df K mg "fewest" s_fewest ["plant","story"]) (T : Tx mg) (D_does : Fn P w K mg base 3 "does" ["terms","chosen"] Fh) (D_least_stretch : E9 P w K mg base) (D_sets_of : Fn P w K mg base 2 "sets_of" ["boilers","many"] Fg) (D_smaller_sets : Fn P w K mg base 3 "smaller_sets" ["boilers","chosen"] Fi) (D_terms_of : Du P w K mg base) (D_with_only : Ez P w K mg base) : Fn P w K mg base 11 "fewest" ["plant","story"] GO := by
 refine F.fn sc_fewest (fun vs H Q E h => ?_) (fun f cdv A outer s H vs Q E hr h => ?_)
 ·unfold GO at h; split at h; rfl; exact h.elim
 refine ⟨_,(Aj (AE (i := 2) sc_fewest.nd rfl (AA (by rfl)) (Ag D_terms_of (hr.mono (by decide)) rfl (AS (cy 0) (cy 1)))) (Aj (AE (i := 3) sc_fewest.nd rfl (AA (by rfl)) (Ag D_least_stretch (hr.mono (by decide)) rfl (AJ (cy 2)))) (Aj (A1 (AW Fu (cy 3) Ck (AQ _)) (Al (Ao (Av DG (B0 (AJ BD)) (cy 3)))) AY) (Aj (AE (i := 4) sc_fewest.nd rfl (AA (by rfl)) (AB (Bb K) rfl T.b_len PySem.boot_len (AJ (AF (AV K) (cy 0) Af (fun _ _ => rfl))))) (Aj (HJ (i := 5) ["many","some","terms","boilers"] [none,none,some 2,some 4] sc_fewest.nd rfl (AA (by rfl)) rfl (BU rfl T.b_range (AJ (Av A8 (cy 4) Af))) (AG.of rfl) (fun _ _ _ _ => (AI 0 (Az (by rfl)))) (fun _ _ _ _ => A3) (fun _ _ _ _ => (Ea K (Ag D_sets_of (hr.mono (by decide)) rfl (AS (cy 3) (cy 0))))) (fun _ _ _ _ => (AI 1 (Az (by rfl)))) (fun _ _ _ _ => (CG (BG (Ag D_does (hr.mono (by decide)) rfl (AS (cy 2) (cy 1)))))) (fun _ _ _ _ => (cy 1))) (Aj (AE (i := 6) sc_fewest.nd rfl (AA (by rfl)) (AF (BY K) (cy 5) Af (fun _ _ => rfl))) (Aj (A7 (Ag D_with_only (hr.mono (by decide)) rfl (AS (cy 2) (cy 6))) (AD K (n := 4) (Ah (AI 7 sc_fewest.nd) (Ah (AI 8 sc_fewest.nd) (Ah (AI 9 sc_fewest.nd) (Ah (AI 10 sc_fewest.nd) AC)))))) (Aj (Ht (i := 11) ["fewer","terms"] [none,some 2] sc_fewest.nd rfl (AA (by rfl)) rfl (Ea K (Ag D_smaller_sets (hr.mono (by decide)) rfl (AS (cy 4) (cy 6)))) (AG.of rfl) (fun _ _ _ _ => (AI 0 (Az (by rfl)))) (fun _ _ _ _ => A3) (fun _ _ _ _ => (Ag D_least_stretch (hr.mono (by decide)) rfl (AJ (Ag D_with_only (hr.mono (by decide)) rfl (AS (cy 1) (cy 0))))))) (Al (Ao (B0 (HI BD (cy 6) (cy 7) (Bi (Bu K) rfl T.b_tuple Bn (AJ (cy 11))))))))))))))),?_⟩
 unfold GO at h
 split at h
 ·rename_i v u
  obtain ⟨p,P,S,ok,so,r,ru,q⟩ := h
  have fl := CL ok so
  have b4 := ok.b4
  refine ⟨p,P,S,ok,so,r,ru,fun t H1 s1 rt => ⟨p,terms P S,ER so,rt,fun w H2 s2 rw2 => ⟨rfl,?_⟩⟩⟩
  unfold ret Ex at q
  cases z : AO (terms P S) with
  | some s0 =>
   rw [z] at rw2 q
   obtain ⟨A',rfl,hA⟩ := Aa.pair rw2
   refine ⟨fun _ => ?_,fun c => (by simp at c)⟩
   refine fun t H3 s3 kt => ⟨t,A',_,_,rfl,rfl,kt,s3 _ _ hA,(show 1 + 2 <= 1000 by decide),fun e H4 s4 ke => q _ _ (s1.trans (s2.trans (s3.trans s4))) (Aa.tup ke (.cons Aa.str (.cons Aa.int (.cons Aa.int .nil))))⟩
  | none =>
   obtain ⟨c,hc⟩ := Io ok so z
   rw [z] at rw2 q
   simp only [hc] at q
   have ew : w = .non := by unfold DL at rw2; unfold Aa at rw2; exact rw2
   subst ew
   refine ⟨fun c => (by simp at c),fun _ => ?_⟩
   have s12 := s1.trans s2
   obtain ⟨PA,PB,PE,PM,xb,xe,rfl,pA,pB,rb,pE,re,pM⟩ := Aa.plant (Aa.ev (Ev.same s12) _ _ r)
   have lb := rb.len
   rw [List.length_map] at lb
   refine ⟨PA,_,0,.ref PB,rfl,rfl,Ad.of pA,rfl,PB,_,rfl,.inr (Ad.of pB),?_⟩
   rw [<- lb]
   have rt2 := Aa.ev (Ev.same s2) _ _ rt
   refine ⟨_,rfl,by omega,by omega,JW (n := ((P.bs.length : Int) + 1).toNat) (fun i zs H' => Ab H2 H' /\ Ac p H' (((B3 P.bs.length i).filter (BJ (terms P S))).map AH) zs) ⟨Ab.refl _,.nil⟩ (fun i zs H' hi h => ?_) fun zs H3 h l hl => ?_⟩
   ·refine ⟨⟨rfl,rfl,trivial⟩,fun _ => ?_,fun z => by cases z⟩
    have few := Ep P.bs.length b4 i (by omega)
    have few' := KJ b4 (k := i) (by omega)
    refine ⟨p,P.bs.length,i,rfl,by omega,b4,by omega,fun R H4 xs s4 hR kR rs => ⟨R,rfl,⟨_,Am.of kR⟩,?_⟩⟩
    have lx := rs.len
    rw [List.length_map] at lx
    refine Pu (xs := xs) (fun j ys H5 => Ab H4 H5 /\ Ac p H5 (((B3 P.bs.length i ++ (BQ P.bs.length i).take j).filter (BJ (terms P S))).map AH) ys) ⟨Ab.refl _,?_⟩ (fun j ys H5 h => ?_) (fun j ys H5 h => Am.of (h.1 _ _ kR)) (fun j x ys H5 hx h5 => ?_) fun ys H5 h5 => ?_
    ·rw [List.take_zero,List.append_nil]
     exact Ac.ev (Ev.same s4) _ _ h.2
    ·have := h.2.len
     rw [List.length_map] at this
     have := List.length_filter_le (BJ (terms P S)) (B3 P.bs.length i ++ (BQ P.bs.length i).take j)
     rw [List.length_append,List.length_take] at this
     omega
    ·obtain ⟨d,hd,rd⟩ := Ac.mapGot rs hx
     have s35 := h.1.trans (s4.trans h5.1)
     refine ⟨⟨rfl,rfl,rfl,trivial⟩,p,terms P S,d,fl,Aa.ev (Ev.same s35) _ _ rt2,Aa.ev (Ev.same h5.1) _ _ rd,fun H6 s6 => ⟨fun z => ⟨h5.1.trans s6,?_⟩,fun z => ⟨h5.1.trans s6,?_⟩⟩⟩
     ·rw [A2 hd,<- List.append_assoc,List.filter_append,List.filter_cons_of_pos z,List.filter_nil,List.map_append]
      exact Ac.snoc (Ac.ev (Ev.same s6) _ _ h5.2) (Aa.ev (Ev.same (h5.1.trans s6)) _ _ rd)
     ·rw [A2 hd,<- List.append_assoc,List.filter_append,List.filter_cons_of_neg (by rw [z]; decide),List.filter_nil,List.append_nil]
      exact Ac.ev (Ev.same s6) _ _ h5.2
    ·refine ⟨h.1.trans (s4.trans h5.1),?_⟩
     have h6 := h5.2
     rw [List.take_of_length_le (by omega)] at h6
     rw [Ia]
     exact h6
   ·obtain ⟨rest,hf⟩ := Rl hc
    obtain ⟨st,dc,least⟩ := Ib hc
    have nl := Ab.new (o := .lst zs) hl
    have kl : upd H3 l (.lst zs) l = some (.lst zs) := Ai
    have s24 := h.1.trans nl
    have rz := Ac.ev (Ev.same nl) _ _ h.2
    generalize upd H3 l (.lst zs) = H4 at nl kl s24 rz ⊢
    rw [show ((P.bs.length : Int) + 1).toNat = P.bs.length + 1 from by omega,hf] at rz
    obtain ⟨x0,hx0,rx0⟩ := rz.get (i := 0) (d := AH c) rfl
    have rt4 := Aa.ev (Ev.same s24) _ _ rt2
    refine ⟨l,zs,0,x0,rfl,rfl,Am.of kl,Dg hx0,?_⟩
    refine ⟨p,terms P S,c,fl,rt4,rx0,fun w H5 s5 r5 => ?_⟩
    obtain ⟨A,C,B,D,M,xc,rfl,hA,hC,rc,hB,hD,hM⟩ := Aa.terms r5
    refine ⟨A,_,rfl,Ad.of hA,rfl,_,_,rfl,_,_,rfl,_,_,rfl,_,_,rfl,rfl,?_⟩
    have rx5 := Aa.ev (Ev.same s5) _ _ rx0
    have rt5 := Aa.ev (Ev.same s5) _ _ rt4
    refine ⟨p,P.bs.length,c,rfl,b4,st,rx5,fun R H6 ys s6 hR k6 rs6 => ⟨R,rfl,⟨_,Am.of k6⟩,?_⟩⟩
    have ly := rs6.len
    rw [List.length_map] at ly
    have ls : (CP P.bs.length c).length <= 6 := by
     unfold CP
     split
     ·exact Nat.zero_le _
     ·exact Ep _ b4 _ (by have := st.len; omega)
    refine Jt (xs := ys) (fun i zs H' => Ab H6 H' /\ Ac p H' (((CP P.bs.length c).take i).map fun d => DL (AO (only (terms P S) d))) zs) (by omega) ⟨Ab.refl _,.nil⟩ (fun i zs H' h => by have := h.2.len; rw [List.length_map,List.length_take] at this; omega) (fun i zs H' _ h => Am.of (h.1 _ _ k6)) (fun i x zs H' hx h => ?_) fun zs H7 h7 => ?_
    ·obtain ⟨d,hd,rd⟩ := Ac.mapGot rs6 hx
     refine ⟨⟨rfl,trivial⟩,fun _ => ⟨p,terms P S,d,fl,Aa.ev (Ev.same (s6.trans h.1)) _ _ rt5,Aa.ev (Ev.same h.1) _ _ rd,fun w H8 s8 r8 => ⟨p,_,F6 fl.ok,r8,fun w9 H9 s9 r9 => ⟨h.1.trans (s8.trans s9),?_⟩⟩⟩,fun z => by cases z⟩
     rw [A2 hd,List.map_append]
     exact Ac.snoc (Ac.ev (Ev.same (s8.trans s9)) _ _ h.2) r9
    ·intro l2 hl2
     have n8 := Ab.new (o := .lst zs) hl2
     have k8 : upd H7 l2 (.lst zs) l2 = some (.lst zs) := Ai
     generalize upd H7 l2 (.lst zs) = H8 at n8 k8 ⊢
     refine ⟨l2,_,rfl,.inl ⟨Am.of k8,fun l3 hl3 => ?_⟩⟩
     have n9 := Ab.new (o := .tup zs) hl3
     have k9 : upd H8 l3 (.tup zs) l3 = some (.tup zs) := Ai
     generalize upd H8 l3 (.tup zs) = H9 at n9 k9 ⊢
     refine fun e H10 s10 ke => ?_
     have s79 := n8.trans (n9.trans s10)
     have s59 := s6.trans (h7.1.trans s79)
     have r7 := h7.2
     rw [List.take_of_length_le (by omega)] at r7
     exact q _ _ (s12.trans (s24.trans (s5.trans s59))) (Aa.tup ke (.cons Aa.str (.cons (Aa.ev (Ev.same s59) _ _ rx5) (.cons (Aa.tup (s59 _ _ hC) (Ac.ev (Ev.same s59) _ _ rc)) (.cons (Aa.tup (s10 _ _ k9) (Ac.ev (Ev.same s79) _ _ r7)) .nil)))))
 ·exact h.elim
theorem RK : Aw ["terms","sets","thing"] ["terms","sets","thing"] (Ap s_are_shown) := Ax
theorem RL (F : Df K mg "are_shown" s_are_shown ["terms","sets","thing"]) (T : Tx mg) (D_is_shown : Fn P w K mg base 4 "is_shown" ["terms","thing"] Fe) (D_is_tuple_of : BR P w K mg base) (D_with_only : Ez P w K mg base) : Fn P w K mg base 5 "are_shown" ["terms","sets","thing"] GP := by
 refine F.fn RK (fun vs H Q E h => ?_) (fun f cdv A outer s H vs Q E hr h => ?_)
 ·unfold GP at h; split at h; rfl; exact h.elim
 refine ⟨_,(Al (Ao (AZ (Ag D_is_tuple_of (hr.mono (by decide)) rfl (Be (cy 2) (AB (Bb K) rfl T.b_len PySem.boot_len (AJ (cy 1))) (AB (Bb K) rfl T.b_len PySem.boot_len (AJ (cy 1))))) (Bl (AB (CZ rfl) rfl T.b_all boot_all (AJ (A4 ["chosen","part","terms"] [none,none,some 0] rfl (Pe P w K rfl T.b_zip (AS (cy 1) (cy 2))) (AG.of rfl) (fun _ _ _ _ => (AD K (n := 2) (Ah (AI 0 (Az (by rfl))) (Ah (AI 1 (Az (by rfl))) AC)))) (fun _ _ _ _ => A3) (fun _ _ _ _ => (Ag D_is_shown (hr.mono (by decide)) rfl (AS (Ag D_with_only (hr.mono (by decide)) rfl (AS (cy 2) (cy 0))) (cy 1))))))))))),?_⟩
 unfold GP at h
 split at h
 ·rename_i t R x
  obtain ⟨p,T,cs,xs,fl,l100,sh,rt,kR,rs,rx,q⟩ := h
  obtain ⟨X,ys,rfl,hX,ry⟩ := Aa.shape rx
  have lx := rs.len
  have ly := ry.len
  rw [List.length_map] at lx ly
  refine ⟨R,_,rfl,.inl (Am.of kR),R,_,rfl,.inl (Am.of kR),p,_,rx,fun b hb => ⟨fun _ => ?_,fun z => ?_⟩⟩
  ·refine ⟨R,X,rfl,⟨_,Am.of kR⟩,⟨_,Ad.of hX⟩,walk_zip (xs := xs) (ys := ys) (fun i zs H' => Ab H H' /\ zs = List.replicate i (V.bl true)) (by omega) (by omega) ⟨Ab.refl _,rfl⟩ (fun i zs H' h => by rw [h.2,List.length_replicate]; omega) (fun i zs H' h => ⟨Am.of (h.1 _ _ kR),Ad.of (h.1 _ _ hX)⟩) (fun i x y zs H' U hx hy h hU => ?_) fun zs H' h m hm => ?_⟩
   ·obtain ⟨c,hc,rc⟩ := Ac.mapGot rs hx
    obtain ⟨c',hc',ry'⟩ := Ac.mapGot ry hy
    rw [hc] at hc'; cases hc'
    have s2 := h.1.trans (Ab.new (o := .tup [x,y]) hU)
    refine ⟨U,_,rfl,Ad.of Ai,rfl,_,_,rfl,_,_,rfl,rfl,⟨rfl,trivial⟩,fun _ => ?_,fun z => by cases z⟩
    refine ⟨p,T,c,fl,Aa.ev (Ev.same s2) _ _ rt,Aa.ev (Ev.same s2) _ _ rc,fun w H3 s3 r3 => ⟨p,only T c,_,F6 fl.ok,r3,Aa.ev (Ev.same (s2.trans s3)) _ _ ry',fun b H4 e s4 => ⟨s2.trans (s3.trans s4),?_⟩⟩⟩
    have e' : b = true := by
     rw [e]
     cases z : AO (only T c) with
     | none => exact absurd z (sh c (List.mem_of_getElem? hc))
     | some s0 =>
      obtain ⟨h1,h2,h3⟩ := K2 z
      show Fd (only T c) (pD s0) = true
      rw [Ik h2,decide_eq_true h1,h3]; rfl
    rw [h.2,e',List.replicate_succ']
   ·refine ⟨m,List.replicate xs.length true,rfl,by rw [Ai,h.2,List.map_replicate],?_⟩
    have ea : (List.replicate xs.length true).all id = true := by simp
    rw [ea]
    exact q _ (h.1.trans (Ab.new hm))
  ·rw [Dt (by rw [List.length_map]; omega) (by rw [List.length_map]; omega)] at hb
   rw [hb] at z; cases z
 ·exact h.elim
theorem sc_is_lit_paper : Aw ["plant","story","thing","terms","boilers","word","chosen","firing","shows"] ["plant","story","thing"] (Ap s_is_lit_paper) := Ax
theorem RM (F : Df K mg "is_lit_paper" s_is_lit_paper ["plant","story","thing"]) (T : Tx mg) (D_are_shown : Fn P w K mg base 5 "are_shown" ["terms","sets","thing"] GP) (D_is_firing_within : Fn P w K mg base 4 "is_firing_within" ["caps","thing"] Fa) (D_is_set : Fn P w K mg base 3 "is_set" ["boilers","thing"] Ff) (D_is_tuple_of : BR P w K mg base) (D_keeps_up : Fn P w K mg base 14 "keeps_up" ["plant","story","firing"] GG) (D_smaller_sets : Fn P w K mg base 3 "smaller_sets" ["boilers","chosen"] Fi) (D_terms_of : Du P w K mg base) (D_with_only : Ez P w K mg base) : Fn P w K mg base 15 "is_lit_paper" ["plant","story","thing"] GQ := by
 refine F.fn sc_is_lit_paper (fun vs H Q E h => ?_) (fun f cdv A outer s H vs Q E hr h => ?_)
 ·unfold GQ at h; split at h; rfl; exact h.elim
 refine ⟨_,(Aj (A1 (BT (BG (Ag D_is_tuple_of (hr.mono (by decide)) rfl (Be (cy 2) Af Af)))) (Al (Ao BC)) AY) (Aj (AE (i := 3) sc_is_lit_paper.nd rfl (AA (by rfl)) (Ag D_terms_of (hr.mono (by decide)) rfl (AS (cy 0) (cy 1)))) (Aj (AE (i := 4) sc_is_lit_paper.nd rfl (AA (by rfl)) (AB (Bb K) rfl T.b_len PySem.boot_len (AJ (AF (AV K) (cy 0) Af (fun _ _ => rfl))))) (Aj (A7 (cy 2) (AD K (n := 4) (Ah (AI 5 sc_is_lit_paper.nd) (Ah (AI 6 sc_is_lit_paper.nd) (Ah (AI 7 sc_is_lit_paper.nd) (Ah (AI 8 sc_is_lit_paper.nd) AC)))))) (Al (Ao (AZ (BM Ct (cy 5) BD (AQ _)) (AZ (Ag D_is_set (hr.mono (by decide)) rfl (AS (cy 4) (cy 6))) (AZ (Ag D_is_firing_within (hr.mono (by decide)) rfl (AS (AF (AV K) (Ag D_with_only (hr.mono (by decide)) rfl (AS (cy 3) (cy 6))) Af (fun _ _ => rfl)) (cy 7))) (AZ (Ag D_keeps_up (hr.mono (by decide)) rfl (Be (cy 0) (cy 1) (cy 7))) (Bl (Ag D_are_shown (hr.mono (by decide)) rfl (Be (cy 3) (Ag D_smaller_sets (hr.mono (by decide)) rfl (AS (cy 4) (cy 6))) (cy 8)))))))))))))),?_⟩
 unfold GQ at h
 split at h
 ·rename_i v u x
  obtain ⟨p,P,S,c,ok,so,hc,r,ru,rx,q⟩ := h
  have fl := CL ok so
  have b4 := ok.b4
  obtain ⟨st,dc,least⟩ := Ib hc
  have d0 : AO (only (terms P S) c) = none := by unfold BJ at dc; simpa using dc
  refine ⟨p,_,rx,fun b hb => ?_⟩
  have eb : b = true := hb
  subst eb
  refine ⟨fun z => (by cases z),fun _ => ?_⟩
  refine ⟨p,P,S,ok,so,r,ru,fun t H1 s1 rt => ?_⟩
  obtain ⟨PA,PB,PE,PM,xb,xe,rfl,pA,pB,rb,pE,re,pM⟩ := Aa.plant (Aa.ev (Ev.same s1) _ _ r)
  have lb := rb.len
  rw [List.length_map] at lb
  refine ⟨PA,_,0,.ref PB,rfl,rfl,Ad.of pA,rfl,PB,_,rfl,.inr (Ad.of pB),?_⟩
  rw [<- lb]
  obtain ⟨X,ys,rfl,hX,rs⟩ := Aa.shape (Aa.ev (Ev.same s1) _ _ rx)
  obtain ⟨y1,y2,y3,y4,rfl,r1,r2,r3,r4⟩ := Ac.four rs
  unfold Aa at r1
  subst r1
  refine ⟨X,_,rfl,Ad.of hX,rfl,_,_,rfl,_,_,rfl,_,_,rfl,_,_,rfl,rfl,rfl,⟨fun _ => ?_,fun z => absurd z (by decide +kernel)⟩⟩
  refine ⟨p,P.bs.length,c,rfl,b4,st,r2,fun H2 s2 => ⟨fun _ => ?_,fun z => (by cases z)⟩⟩
  refine ⟨p,terms P S,c,fl,Aa.ev (Ev.same s2) _ _ rt,Aa.ev (Ev.same s2) _ _ r2,fun w H3 s3 r5 => ?_⟩
  obtain ⟨A,C,B,D,M,xc,rfl,hA,hC,rc,hB,hD,hM⟩ := Aa.terms r5
  have s13 := s2.trans s3
  have fo := Ic ok so (c := c)
  refine ⟨A,_,0,.ref C,rfl,rfl,Ad.of hA,rfl,p,(only (terms P S) c).cs,(only (terms P S) c).cs,?_,Aa.tup hC rc,Aa.ev (Ev.same s13) _ _ r3,fun H4 s4 => ⟨fun _ => ?_,fun z => (by cases z)⟩⟩
  ·have x8 := so.x8
   have fl' := fo.len
   refine ⟨rfl,by omega,fun i a b ha hb => ?_⟩
   rw [ha] at hb
   cases hb
   have := fo.row i a ha
   refine ⟨rfl,by omega,fun j x y hx hy => ?_⟩
   rw [hx] at hy
   cases hy
   exact ⟨(((F7 (ch := c) fl).c a (List.mem_of_getElem? ha)).2 x (List.mem_of_getElem? hx)).1,Int.le_refl _⟩
  have s14 := s13.trans s4
  refine ⟨p,P,S,(only (terms P S) c).cs,⟨ok,so,fo,Aa.ev (Ev.same (s1.trans s14)) _ _ r,Aa.ev (Ev.same (s1.trans s14)) _ _ ru,Aa.ev (Ev.same s14) _ _ r3⟩,fun H5 k s run s5 => ?_⟩
  rw [PD ok so d0 run]
  refine ⟨fun _ => ?_,fun z => (by cases z)⟩
  have s15 := s14.trans s5
  refine ⟨p,P.bs.length,c,rfl,b4,st,Aa.ev (Ev.same s15) _ _ r2,fun R H6 zs s6 hR kR rs6 => ?_⟩
  have s16 := s15.trans s6
  refine ⟨p,terms P S,CP P.bs.length c,zs,fl,?_,fun d hd => ?_,Aa.ev (Ev.same s16) _ _ rt,kR,rs6,Aa.ev (Ev.same s16) _ _ r4,fun H7 s7 => q _ (s1.trans (s16.trans s7))⟩
  ·unfold CP
   split
   ·exact Nat.zero_le _
   ·exact Nat.le_trans (Ep _ b4 _ (by have := st.len; omega)) (by decide)
  ·unfold CP at hd
   split at hd
   ·cases hd
   ·rename_i e0
    obtain ⟨sd,ld⟩ := mem_sets.mp hd
    have l0 : 0 < c.length := List.length_pos_iff.mpr e0
    have := least d sd (by omega)
    unfold BJ at this
    intro z
    rw [z] at this; cases this
 ·exact h.elim
theorem sc_fewest_holds : Aw ["plant","story","thing","terms"] ["plant","story","thing"] (Ap s_fewest_holds) := Ax
theorem RN (F : Df K mg "fewest_holds" s_fewest_holds ["plant","story","thing"]) (T : Tx mg) (D_is_lit_paper : Fn P w K mg base 15 "is_lit_paper" ["plant","story","thing"] GQ) (D_is_short_paper : Fn P w K mg base 5 "is_short_paper" ["terms","thing"] GJ) (D_terms_of : Du P w K mg base) : Fn P w K mg base 16 "fewest_holds" ["plant","story","thing"] GR := by
 refine F.fn sc_fewest_holds (fun vs H Q E h => ?_) (fun f cdv A outer s H vs Q E hr h => ?_)
 ·unfold GR at h; split at h; rfl; exact h.elim
 refine ⟨_,(Aj (AE (i := 3) sc_fewest_holds.nd rfl (AA (by rfl)) (Ag D_terms_of (hr.mono (by decide)) rfl (AS (cy 0) (cy 1)))) (Al (Ao (Nh (Ag D_is_short_paper (hr.mono (by decide)) rfl (AS (cy 3) (cy 2))) (Bl (Ag D_is_lit_paper (hr.mono (by decide)) rfl (Be (cy 0) (cy 1) (cy 2)))))))),?_⟩
 unfold GR at h
 split at h
 ·rename_i v u x
  obtain ⟨p,P,S,ok,so,r,ru,rx,q⟩ := h
  refine ⟨p,P,S,ok,so,r,ru,fun t H1 s1 rt => ?_⟩
  unfold Ex at rx
  cases z : AO (terms P S) with
  | some s0 =>
   simp only [z] at rx
   obtain ⟨h1,h2,h3⟩ := K2 z
   refine ⟨p,terms P S,_,ER so,rt,Aa.ev (Ev.same s1) _ _ rx,.inr ⟨s0,rfl,h1,h2,fun H2 s2 => ?_⟩⟩
   rw [h3]
   exact ⟨fun _ => q _ (s1.trans s2),fun c => (by cases c)⟩
  | none =>
   obtain ⟨c,hc⟩ := Io ok so z
   simp only [z,hc] at rx
   refine ⟨p,terms P S,_,ER so,rt,Aa.ev (Ev.same s1) _ _ rx,.inl ⟨rfl,fun H2 s2 => ?_⟩⟩
   have s12 := s1.trans s2
   exact ⟨fun c => (by cases c),fun _ => ⟨p,P,S,c,ok,so,hc,Aa.ev (Ev.same s12) _ _ r,Aa.ev (Ev.same s12) _ _ ru,Aa.ev (Ev.same s12) _ _ rx,fun H3 s3 => q _ (s12.trans s3)⟩⟩
 ·exact h.elim
theorem sc_alone : Aw ["plant","story","chosen","terms"] ["plant","story","chosen"] (Ap s_alone) := Ax
theorem RO (F : Df K mg "alone" s_alone ["plant","story","chosen"]) (T : Tx mg) (D_coal_under : Fn P w K mg base 4 "coal_under" ["terms"] E8) (D_is_set : Fn P w K mg base 3 "is_set" ["boilers","thing"] Ff) (D_terms_of : Du P w K mg base) (D_with_only : Ez P w K mg base) : Fn P w K mg base 11 "alone" ["plant","story","chosen"] GS := by
 refine F.fn sc_alone (fun vs H Q E h => ?_) (fun f cdv A outer s H vs Q E hr h => ?_)
 ·unfold GS at h; split at h; rfl; exact h.elim
 refine ⟨_,(Aj (AE (i := 3) sc_alone.nd rfl (AA (by rfl)) (Ag D_terms_of (hr.mono (by decide)) rfl (AS (cy 0) (cy 1)))) (Aj (A1 (BT (BG (Ag D_is_set (hr.mono (by decide)) rfl (AS (AB (Bb K) rfl T.b_len PySem.boot_len (AJ (AF (AV K) (cy 0) Af (fun _ _ => rfl)))) (cy 2))))) (Al Fm) AY) (Al (Ao (Ag D_coal_under (hr.mono (by decide)) rfl (AJ (Ag D_with_only (hr.mono (by decide)) rfl (AS (cy 3) (cy 2))))))))),?_⟩
 unfold GS at h
 split at h
 ·rename_i v u x
  obtain ⟨p,P,S,c,ok,so,st,r,ru,rx,q1,q2⟩ := h
  have b4 := ok.b4
  refine ⟨p,P,S,ok,so,r,ru,fun t H1 s1 rt => ?_⟩
  obtain ⟨PA,PB,PE,PM,xb,xe,rfl,pA,pB,rb,pE,re,pM⟩ := Aa.plant (Aa.ev (Ev.same s1) _ _ r)
  have lb := rb.len
  rw [List.length_map] at lb
  refine ⟨PA,_,0,.ref PB,rfl,rfl,Ad.of pA,rfl,PB,_,rfl,.inr (Ad.of pB),p,P.bs.length,c,by rw [lb],b4,st,Aa.ev (Ev.same s1) _ _ rx,fun H2 s2 => ⟨fun z => (by cases z),fun _ => ?_⟩⟩
  have s12 := s1.trans s2
  refine ⟨p,terms P S,c,CL ok so,Aa.ev (Ev.same s2) _ _ rt,Aa.ev (Ev.same s12) _ _ rx,fun w H3 s3 r3 => ⟨p,only (terms P S) c,F7 (CL ok so),r3,fun n H4 s4 => q1 n _ (s12.trans (s3.trans s4)),fun n f ps H4 hf s4 => q2 n f ps _ hf (s12.trans (s3.trans s4))⟩⟩
 ·exact h.elim
theorem RP : Aw ["boilers","boiler"] ["boilers","boiler"] (Ap s_without) := Ax
theorem RQ (F : Df K mg "without" s_without ["boilers","boiler"]) (T : Tx mg)  : Fn P w K mg base 1 "without" ["boilers","boiler"] GT := by
 refine F.fn RP (fun vs H Q E h => ?_) (fun f cdv A outer s H vs Q E hr h => ?_)
 ·unfold GT at h; split at h; rfl; exact h.elim
 refine ⟨_,(Al (Ao (Bi (Bu K) rfl T.b_tuple Bn (AJ (A4 ["other","boiler"] [none,some 1] rfl (BU rfl T.b_range (AJ (cy 0))) (AG.of rfl) (fun _ _ _ _ => (AI 0 (Az (by rfl)))) (fun _ _ _ _ => (CG (AW Ft (cy 0) (cy 1) (AQ _)))) (fun _ _ _ _ => (cy 0))))))),?_⟩
 unfold GT at h
 split at h
 ·rename_i m b
  obtain ⟨p,n,rfl,n4,q⟩ := h
  refine ⟨_,rfl,by omega,by omega,DZ (n := (n : Int).toNat) (fun i ys H' => H' = H /\ ys = ((AX i).filter fun x => decide (x ≠ b)).map V.int) (by omega) ⟨rfl,rfl⟩ (fun i ys H' h => by rw [h.2,List.length_map]; exact Nat.le_trans (List.length_filter_le _ _) (by unfold AX; simp)) (fun i ys H' hi h => ?_) fun ys H' h m hm => ?_⟩
  ·refine ⟨⟨rfl,trivial⟩,rfl,fun z => ⟨h.1,?_⟩,fun z => ⟨h.1,?_⟩⟩
   ·have e : ((i : Nat) : Int) ≠ b := fun e => by rw [Int.zero_add,e] at z; simp at z
    rw [GV,if_pos (decide_eq_true e),h.2,List.map_append,Int.zero_add]; rfl
   ·have e : ¬ (((i : Nat) : Int) ≠ b) := fun e => by rw [Int.zero_add] at z; simp at z; exact e z
    rw [GV,if_neg (fun z => e (of_decide_eq_true z)),h.2]
  ·refine ⟨m,_,rfl,.inl ⟨Am.of Ai,fun l hl => ?_⟩⟩
   rw [h.1] at hm hl ⊢
   refine q _ _ ((Ab.new hm).trans (Ab.new hl)) (Aa.row ?_)
   rw [Ai,h.2]; rfl
 ·exact h.elim
theorem sc_needed : Aw ["plant","story","terms","boilers"] ["plant","story"] (Ap s_needed) := Ax
theorem RR (F : Df K mg "needed" s_needed ["plant","story"]) (T : Tx mg) (D_does : Fn P w K mg base 3 "does" ["terms","chosen"] Fh) (D_terms_of : Du P w K mg base) (D_without : Fn P w K mg base 1 "without" ["boilers","boiler"] GT) : Fn P w K mg base 11 "needed" ["plant","story"] GU := by
 refine F.fn sc_needed (fun vs H Q E h => ?_) (fun f cdv A outer s H vs Q E hr h => ?_)
 ·unfold GU at h; split at h; rfl; exact h.elim
 refine ⟨_,(Aj (AE (i := 2) sc_needed.nd rfl (AA (by rfl)) (Ag D_terms_of (hr.mono (by decide)) rfl (AS (cy 0) (cy 1)))) (Aj (AE (i := 3) sc_needed.nd rfl (AA (by rfl)) (AB (Bb K) rfl T.b_len PySem.boot_len (AJ (AF (AV K) (cy 0) Af (fun _ _ => rfl))))) (Al (Ao (Bi (Bu K) rfl T.b_tuple Bn (AJ (A4 ["boiler","terms","boilers"] [none,some 2,some 3] rfl (BU rfl T.b_range (AJ (cy 3))) (AG.of rfl) (fun _ _ _ _ => (AI 0 (Az (by rfl)))) (fun _ _ _ _ => (CG (BT (BG (Ag D_does (hr.mono (by decide)) rfl (AS (cy 1) (Ag D_without (hr.mono (by decide)) rfl (AS (cy 2) (cy 0))))))))) (fun _ _ _ _ => (cy 0))))))))),?_⟩
 unfold GU at h
 split at h
 ·rename_i v u
  obtain ⟨p,P,S,ok,so,r,ru,q⟩ := h
  refine ⟨p,P,S,ok,so,r,ru,fun t H1 s1 rt => ?_⟩
  obtain ⟨PA,PB,PE,PM,xb,xe,rfl,pA,pB,rb,pE,re,pM⟩ := Aa.plant (Aa.ev (Ev.same s1) _ _ r)
  have lb := rb.len
  rw [List.length_map] at lb
  have b4 := ok.b4
  refine ⟨PA,_,0,.ref PB,rfl,rfl,Ad.of pA,rfl,PB,_,rfl,.inr (Ad.of pB),?_⟩
  rw [<- lb]
  refine ⟨_,rfl,by omega,by omega,DZ (n := (P.bs.length : Int).toNat) (fun i ys H' => Ab H1 H' /\ ys = ((AX i).filter fun b => !BJ (terms P S) (Ey P.bs.length b)).map V.int) (by omega) ⟨Ab.refl _,rfl⟩ (fun i ys H' h => by rw [h.2,List.length_map]; exact Nat.le_trans (List.length_filter_le _ _) (by unfold AX; simp)) (fun i ys H' hi h => ?_) fun ys H' h m hm => ?_⟩
  ·refine ⟨⟨rfl,rfl,trivial⟩,p,P.bs.length,rfl,b4,fun w H2 s2 rw2 => ⟨p,terms P S,_,CL ok so,Aa.ev (Ev.same (h.1.trans s2)) _ _ rt,rw2,fun H3 s3 => ?_⟩⟩
   rw [Int.zero_add]
   refine ⟨fun z => ⟨h.1.trans (s2.trans s3),?_⟩,fun z => ⟨h.1.trans (s2.trans s3),?_⟩⟩
   ·rw [GV,if_pos z,h.2,List.map_append]; rfl
   ·rw [GV,if_neg (by rw [z]; decide),h.2]
  ·refine ⟨m,_,rfl,.inl ⟨Am.of Ai,fun l hl => ?_⟩⟩
   refine q _ _ (s1.trans (h.1.trans ((Ab.new hm).trans (Ab.new hl)))) (Aa.row ?_)
   rw [Ai,h.2]; rfl
 ·exact h.elim
end
end MF
end
section
namespace MF
open PySem PySem.Spec PyProof.Rows L2
theorem RS {T : TM} {c c' : Int} {ps ps' : List Int} (h : Cp T c ps) (h' : Cp T c' ps') : c = c' := by
 have a := h.top ps' h'.len h'.as
 have b := h'.top ps h.len h.as
 have := h.val
 have := h'.val
 omega
def GW : Sp := fun vs H Q _ => match vs with | [.ref p,.int m,.int h] => Bc p H /\ 1 <= m /\ m <= 4 /\ 1 <= h /\ h <= 8 /\ ∀ t H' P S v u,PL.ok P -> SY.ok S P.bs.length -> H' t = some (.tup [v,u]) -> Aa p H' P.d v -> Aa p H' S.d u -> Ev p H H' -> Bc p H' -> Q (.ref t) H' | _ => False
def GX : Sp := fun vs H Q _ => match vs with | [v,u] => ∃ p P S,PL.ok P /\ SY.ok S P.bs.length /\ Aa p H P.d v /\ Aa p H S.d u /\ ∀ H',Ab H H' -> Q (.bl true) H' | _ => False
theorem RT : ∀ n,n <= 4 -> (AH (AX n)).canLay0 = true /\ (AH (AX n)).hasDict = false /\ (AH (AX n)).depth <= 20 /\ PyData.eqv (AH (AX n)) (AH (AX n)) = true := by decide +kernel
theorem RU {n : Nat} {T : TM} (fl : Bw T) (h : AO T ≠ none) (hn : only T (AX n) = T) : DT n T = AX n := by
 unfold DT
 rw [List.filter_eq_self]
 intro b hb
 unfold BJ
 cases z : AO (only T (Ey n b)) with
 | some _ => rfl
 | none =>
  have := HZ fl (c := Ey n b) (c' := AX n) (fun x hx => (List.mem_filter.mp hx).1) z
  rw [hn] at this
  exact absurd this h
theorem RV {n : Nat} {T : TM} (fl : Bw T) {c : List Int} (st : IsSet n c) (d : AO (only T c) = none) {b : Int} (hb : b ∈ DT n T) : b ∈ c := by
 by_cases h : b ∈ c
 ·exact h
 ·have m := (List.mem_filter.mp hb).2
  have := HZ fl (c := c) (c' := Ey n b) (fun x hx => List.mem_filter.mpr ⟨allB_mem.mpr (st.bd x hx),decide_eq_true fun e => h (e ▸ hx)⟩) d
  unfold BJ at m
  rw [this] at m; cases m
theorem RW {n : Nat} {c ns : List Int} {b : Int} (st : IsSet n c) (hb : ¬ b ∈ c) (b0 : 0 <= b) (bn : b < n) (pe : ns.Perm (c ++ [b])) (up : ns.Pairwise (· <= ·)) : IsSet n ns := by
 have nd : ns.Nodup := pe.nodup_iff.mpr (List.nodup_append.mpr ⟨st.up.imp fun h => Int.ne_of_lt h,by simp,fun x hx y hy => by rw [List.mem_singleton] at hy; rw [hy]; exact fun e => hb (e ▸ hx)⟩)
 refine ⟨(List.pairwise_and_iff.mpr ⟨up,nd⟩).imp fun h => by omega,fun x hx => ?_⟩
 rcases List.mem_append.mp (pe.mem_iff.mp hx) with h | h
 ·exact st.bd x h
 ·rw [List.mem_singleton] at h; omega
theorem RX {a b c d : V} : BE [a,b,c,d] (some 1) (some 3) = [b,c] := rfl
theorem Lf {c : List Int} {i : Nat} {m : Int} {p : Int -> Bool} (h : c[i]? = some m) : (c.take (i + 1)).filter p = if p m = true then (c.take i).filter p ++ [m] else (c.take i).filter p := by
 rw [A2 h,List.filter_append]
 by_cases z : p m = true
 ·rw [if_pos z,List.filter_cons_of_pos z]; rfl
 ·rw [if_neg z,List.filter_cons_of_neg z]; simp
section
variable {P : Program} {w : World} {K : PySem.W.Frag} {mg : Str -> Option Value} {base : Heap}
theorem sc__law_any_pair : Aw ["_law_pen_here","_law_most","_law_hours","_law_plant_here"] ["_law_pen_here","_law_most","_law_hours"] (Ap s__law_any_pair) := Ax
theorem RY (F : Df K mg "_law_any_pair" s__law_any_pair ["_law_pen_here","_law_most","_law_hours"]) (T : Tx mg) (D__law_plant : Fn P w K mg base 2 "_law_plant" ["_law_pen_here","_law_most"] E1) (D__law_story : Fn P w K mg base 2 "_law_story" ["_law_pen_here","_law_plant_here","_law_most"] E5) : Fn P w K mg base 3 "_law_any_pair" ["_law_pen_here","_law_most","_law_hours"] GW := by
 refine F.fn sc__law_any_pair (fun vs H Q E h => ?_) (fun f cdv A outer s H vs Q E hr h => ?_)
 ·unfold GW at h; split at h; rfl; exact h.elim
 refine ⟨_,(Aj (AE (i := 3) sc__law_any_pair.nd rfl (AA (by rfl)) (Ag D__law_plant (hr.mono (by decide)) rfl (AS (cy 0) (cy 1)))) (Al (Ao (B0 (AS (cy 3) (Ag D__law_story (hr.mono (by decide)) rfl (Be (cy 0) (cy 3) (cy 2)))))))),?_⟩
 unfold GW at h
 split at h
 ·rename_i p m h
  obtain ⟨pn,m1,m4,h1,h8,q⟩ := h
  refine ⟨pn,m1,m4,fun v H2 bs es lo hi st gp rv e2 pn2 => ?_⟩
  obtain ⟨P,ok,eP⟩ := gp.pl
  rw [eP] at rv
  refine ⟨pn2,h1,h8,P,ok,rv,fun u H3 S so ru e3 pn3 => fun t H4 s4 k4 => ?_⟩
  exact q t H4 P S v u ok so k4 (Aa.ev (e3.trans (Ev.same s4)) _ _ rv) (Aa.ev (Ev.same s4) _ _ ru) (e2.trans (e3.trans (Ev.same s4))) (pn3.same s4)
 ·exact h.elim
theorem sc__law_right : Aw ["_law_plant_here","_law_story_here","_law_paper","_law_coal","_law_many","_law_chosen","_law_firing","_law_burnt","_law_steam","_law_one","_law_more"] ["_law_plant_here","_law_story_here"] (Ap s__law_right) := Ax
theorem RZ (F : Df K mg "_law_right" s__law_right ["_law_plant_here","_law_story_here"]) (T : Tx mg) (D_alone : Fn P w K mg base 11 "alone" ["plant","story","chosen"] GS) (D_cheapest : Fn P w K mg base 11 "cheapest" ["plant","story"] GL) (D_coal_of : Fn P w K mg base 13 "coal_of" ["plant","story","firing"] GH) (D_fewest : Fn P w K mg base 11 "fewest" ["plant","story"] GO) (D_fewest_holds : Fn P w K mg base 16 "fewest_holds" ["plant","story","thing"] GR) (D_least_coal : Fn P w K mg base 11 "least_coal" ["plant","story"] GK) (D_needed : Fn P w K mg base 11 "needed" ["plant","story"] GU) (D_steam_by : Fn P w K mg base 12 "steam_by" ["plant","story","firing"] Fc) : Fn P w K mg base 17 "_law_right" ["_law_plant_here","_law_story_here"] GX := by
 refine F.fn sc__law_right (fun vs H Q E h => ?_) (fun f cdv A outer s H vs Q E hr h => ?_)
 ·unfold GX at h; split at h; rfl; exact h.elim
 refine ⟨_,(Aj (N8 (i := 2) (j := 3) (k := 4) rfl sc__law_right.nd rfl rfl rfl (by decide) (by decide) (by decide) rfl rfl rfl (Be (Ag D_fewest (hr.mono (by decide)) rfl (AS (cy 0) (cy 1))) (Ag D_least_coal (hr.mono (by decide)) rfl (AS (cy 0) (cy 1))) (AB (Bb K) rfl T.b_len PySem.boot_len (AJ (AF (AV K) (cy 0) Af (fun _ _ => rfl))))) (by rfl)) (Aj (A1 (PW.pt (FP (AW N9 (Ag D_fewest_holds (hr.mono (by decide)) rfl (Be (cy 0) (cy 1) (cy 2))) BC (AQ _)) (Fl (AW Ft (BM Ct (AF (AV K) (cy 2) Af (fun _ _ => rfl)) BD (AQ _)) (BM EC (cy 3) Ck (AQ _)) (AQ _))))) (Al (Ao BC)) AY) (Aj (A1 (AW Ct (AF (AV K) (cy 2) Af (fun _ _ => rfl)) BD (AQ _)) (Al (Ao (AZ (BM Ct (AF (AV K) (Ag D_cheapest (hr.mono (by decide)) rfl (AS (cy 0) (cy 1))) Af (fun _ _ => rfl)) BD (AQ _)) (Bl (BM (N5 hr) (Ag D_needed (hr.mono (by decide)) rfl (AS (cy 0) (cy 1))) (KO rfl rfl T.b_tuple rfl T.b_range (AJ (cy 4))) (AQ _)))))) AY) (Aj (A7 (De s_tup (cy 2) (Cm Af) (Cm Af)) (AD K (n := 2) (Ah (AI 5 sc__law_right.nd) (Ah (AI 6 sc__law_right.nd) AC)))) (Aj (AE (i := 7) sc__law_right.nd rfl (AA (by rfl)) (Ag D_alone (hr.mono (by decide)) rfl (Be (cy 0) (cy 1) (cy 5)))) (Aj (A1 (PW.pt (FP (AW EC (cy 7) Ck (AQ _)) (Fl (BT (JB CH CH (cy 3) (cy 7) (Ag D_coal_of (hr.mono (by decide)) rfl (Be (cy 0) (cy 1) (cy 6)))))))) (Al (Ao BC)) AY) (Aj (AE (i := 8) sc__law_right.nd rfl (AA (by rfl)) (Ag D_steam_by (hr.mono (by decide)) rfl (Be (cy 0) (cy 1) (cy 6)))) (Aj (A1 (AW (JU hr.units0) (A4 ["_law_boiler","_law_chosen","_law_steam"] [none,some 5,some 8] rfl (BU rfl T.b_range (AJ (cy 4))) (AG.of rfl) (fun _ _ _ _ => (AI 0 (Az (by rfl)))) (fun _ _ _ _ => (CG (PW.pt (FO (AW Hx (AF (AV K) (cy 2) (cy 0) (fun _ _ => rfl)) Af (AQ _)) (G4 (AW (HC K) (cy 0) (cy 1) (by with_unfolding_all rfl))))))) (fun _ _ _ _ => (cy 0))) (Ej BV) (AQ _)) (Al (Ao BC)) AY) (Aj (A1 (AW (JU hr.units0) (A4 ["_law_boiler","_law_chosen"] [none,some 5] rfl (Bz K (Ag D_needed (hr.mono (by decide)) rfl (AS (cy 0) (cy 1)))) (AG.of rfl) (fun _ _ _ _ => (AI 0 (Az (by rfl)))) (fun _ _ _ _ => (CG (AW (HC K) (cy 0) (cy 1) (by with_unfolding_all rfl)))) (fun _ _ _ _ => (cy 0))) (Ej BV) (AQ _)) (Al (Ao BC)) AY) (Aj (BK PassesOwn.never rfl (Bz K (cy 5)) (AI 9 sc__law_right.nd) (Al (A1 (AW Fu (Ag D_alone (hr.mono (by decide)) rfl (Be (cy 0) (cy 1) (Bi (Bu K) rfl T.b_tuple Bn (AJ (A4 ["_law_boiler","_law_one"] [none,some 9] rfl (Bz K (cy 5)) (AG.of rfl) (fun _ _ _ _ => (AI 0 (Az (by rfl)))) (fun _ _ _ _ => (CG (AW Ft (cy 0) (cy 1) (AQ _)))) (fun _ _ _ _ => (cy 0))))))) Ck (AQ _)) (Al (Ao BC)) AY))) (Aj (BK PassesOwn.never rfl (BU rfl T.b_range (AJ (cy 4))) (AI 9 sc__law_right.nd) (Al (A1 (AW (HC K) (cy 9) (cy 5) (by with_unfolding_all rfl)) (Aj (AE (i := 10) sc__law_right.nd rfl (AA (by rfl)) (Ag D_alone (hr.mono (by decide)) rfl (Be (cy 0) (cy 1) (Bi (Bu K) rfl T.b_tuple Bn (AJ (AB (PU rfl) rfl T.b_sorted boot_sorted (AJ (Av DG (cy 5) (B0 (AJ (cy 9))))))))))) (Al (A1 (PW.pt (FP (AW EC (cy 10) Ck (AQ _)) (Fl (AW Hx (cy 10) (cy 7) (AQ _))))) (Al (Ao BC)) AY))) AY))) (Al (Ao (BM Ct (Ag D_alone (hr.mono (by decide)) rfl (Be (cy 0) (cy 1) (KO rfl rfl T.b_tuple rfl T.b_range (AJ (cy 4))))) (cy 3) (AQ _))))))))))))))),?_⟩
 unfold GX at h
 split at h
 ·rename_i v u
  obtain ⟨p,P,S,ok,so,r,ru,q⟩ := h
  have fl := CL ok so
  have b4 := ok.b4
  have f := fun {H H' : Hp} (s : Ab H H') => Ev.same (p := p) s
  refine ⟨p,P,S,ok,so,r,ru,fun pv H1 s1 rp => ?_⟩
  cases z : AO (terms P S) with
  | some s0 =>
   have nz : AO (terms P S) ≠ none := by rw [z]; simp
   refine ⟨p,P,S,ok,so,Aa.ev (f s1) _ _ r,Aa.ev (f s1) _ _ ru,fun _ H2 s2 => ?_,fun no => absurd no nz⟩
   have s12 := s1.trans s2
   obtain ⟨PA,PB,PE,PM,xb,xe,rfl,pA,pB,rb,pE,re,pM⟩ := Aa.plant (Aa.ev (f s12) _ _ r)
   have lb := rb.len
   rw [List.length_map] at lb
   refine ⟨PA,_,0,.ref PB,rfl,rfl,Ad.of pA,rfl,PB,_,rfl,.inr (Ad.of pB),_,_,_,rfl,?_⟩
   rw [<- lb]
   have rp2 := Aa.ev (f s2) _ _ rp
   refine ⟨p,P,S,ok,so,Aa.ev (f s12) _ _ r,Aa.ev (f s12) _ _ ru,rp2,fun H3 s3 => ⟨true,rfl,rfl,⟨fun z => (by cases z),fun _ => ?_⟩⟩⟩
   have rp3 := Aa.ev (f s3) _ _ rp2
   unfold Ex at rp3
   simp only [z] at rp3
   obtain ⟨A,ys,rfl,hA,rs⟩ := Aa.shape rp3
   obtain ⟨y1,y2,y3,rfl,r1,r2,r3⟩ := Ac.three rs
   unfold Aa at r1
   subst r1
   have s13 := s12.trans s3
   refine ⟨A,_,0,.str "short",rfl,rfl,Ad.of hA,rfl,rfl,rfl,rfl,⟨fun c => absurd c (by decide +kernel),fun _ => ?_⟩⟩
   refine ⟨A,_,0,.str "short",rfl,rfl,Ad.of hA,rfl,rfl,⟨fun _ => ?_,fun c => absurd c (by decide +kernel)⟩⟩
   refine ⟨p,P,S,s0,ok,so,z,Aa.ev (f s13) _ _ r,Aa.ev (f s13) _ _ ru,fun w H4 s4 r4 => ?_⟩
   obtain ⟨A',ys',rfl,hA',rs'⟩ := Aa.shape r4
   obtain ⟨y1',y2',y3',rfl,r1',r2',r3'⟩ := Ac.three rs'
   unfold Aa at r1'
   subst r1'
   refine ⟨A',_,0,.str "short",rfl,rfl,Ad.of hA',rfl,rfl,⟨fun _ => ?_,fun c => absurd c (by decide +kernel)⟩⟩
   have s14 := s13.trans s4
   refine ⟨p,P,S,ok,so,Aa.ev (f s14) _ _ r,Aa.ev (f s14) _ _ ru,fun w5 H5 s5 r5 => ⟨P.bs.length,rfl,by omega,fun l H6 s6 kl => ?_⟩⟩
   have en : DT P.bs.length (terms P S) = AX P.bs.length := RU fl nz (Im ok so)
   rw [en] at r5
   obtain ⟨g1,g2,g3,g4⟩ := RT P.bs.length b4
   refine ⟨p,AH (AX P.bs.length),AH (AX P.bs.length),Aa.ev (f s6) _ _ r5,Aa.row (by rw [kl]; unfold AX; rw [List.map_map]; rfl),g1,g2,g3,.inl ⟨g1,g2,?_⟩⟩
   rw [g4]
   exact q _ (s14.trans (s5.trans s6))
  | none =>
   obtain ⟨c,hc⟩ := Io ok so z
   obtain ⟨st,dc,least⟩ := Ib hc
   have d0 : AO (only (terms P S) c) = none := by unfold BJ at dc; simpa using dc
   have all := Im ok so
   have cl := st.len
   have nn : ∀ d : Int,decide (V.int d = V.non) = false := fun d => decide_eq_false (fun z => by cases z)
   unfold Ex at rp
   refine ⟨p,P,S,ok,so,Aa.ev (f s1) _ _ r,Aa.ev (f s1) _ _ ru,fun n => absurd z n,fun _ cf ps H2 hf s2 => ?_⟩
   have s12 := s1.trans s2
   obtain ⟨PA,PB,PE,PM,xb,xe,rfl,pA,pB,rb,pE,re,pM⟩ := Aa.plant (Aa.ev (f s12) _ _ r)
   have lb := rb.len
   rw [List.length_map] at lb
   refine ⟨PA,_,0,.ref PB,rfl,rfl,Ad.of pA,rfl,PB,_,rfl,.inr (Ad.of pB),_,_,_,rfl,?_⟩
   rw [<- lb]
   have rp2 := Aa.ev (f s2) _ _ rp
   refine ⟨p,P,S,ok,so,Aa.ev (f s12) _ _ r,Aa.ev (f s12) _ _ ru,rp2,fun H3 s3 => ⟨true,rfl,rfl,⟨fun z => (by cases z),fun _ => ?_⟩⟩⟩
   have rp3 := Aa.ev (f s3) _ _ rp2
   simp only [z,hc] at rp3
   obtain ⟨A,ys,rfl,hA,rs⟩ := Aa.shape rp3
   obtain ⟨y1,y2,y3,y4,rfl,r1,r2,r3,r4⟩ := Ac.four rs
   unfold Aa at r1
   subst r1
   have s13 := s12.trans s3
   have ew : decide (V.str (Str.ofString "lit") = V.str (Str.ofString "short")) = false := by decide +kernel
   refine ⟨A,_,0,.str "lit",rfl,rfl,Ad.of hA,rfl,rfl,rfl,rfl,⟨fun c => ?_,fun _ => ?_⟩⟩
   ·rw [ew,nn] at c; simp at c
   refine ⟨A,_,0,.str "lit",rfl,rfl,Ad.of hA,rfl,rfl,⟨fun c => absurd c (by rw [ew]; decide),fun _ => ?_⟩⟩
   refine ⟨1,rfl,3,rfl,A,_,rfl,hA,fun t H4 s4 kt => ?_⟩
   rw [RX] at kt
   refine ⟨t,_,rfl,Ad.of kt,rfl,_,_,rfl,_,_,rfl,rfl,?_⟩
   have s14 := s13.trans s4
   obtain ⟨Z,rfl,hZ⟩ := Aa.ofRow (Aa.ev (f s4) _ _ r2)
   refine ⟨p,P,S,c,ok,so,st,Aa.ev (f s14) _ _ r,Aa.ev (f s14) _ _ ru,Aa.row hZ,fun n => absurd d0 n,fun _ bf ps2 H5 hb s5 => ?_⟩
   have le1 : cf <= bf := KG fl (c := c) (c' := AX P.bs.length) (fun x hx => allB_mem.mpr (st.bd x hx)) hb (by rw [all]; exact hf)
   refine ⟨rfl,⟨fun z => absurd z (by rw [nn]; decide),fun _ => ?_⟩⟩
   have s15 := s14.trans s5
   have r35 := Aa.ev (f (s4.trans s5)) _ _ r3
   have fo := Ic ok so (c := c)
   refine ⟨fun _ => ⟨p,P,S,(only (terms P S) c).cs,⟨ok,so,fo,Aa.ev (f s15) _ _ r,Aa.ev (f s15) _ _ ru,r35⟩,fun H6 s6 => ?_⟩,fun z => absurd le1 (of_decide_eq_false z)⟩
   refine ⟨fun z => ?_,fun _ => ?_⟩
   ·have := PF ok so d0 hb
    rw [decide_eq_true this] at z; cases z
   have s16 := s15.trans s6
   refine ⟨p,P,S,(only (terms P S) c).cs,⟨ok,so,fo,Aa.ev (f s16) _ _ r,Aa.ev (f s16) _ _ ru,Aa.ev (f s6) _ _ r35⟩,fun sv H7 s7 rs7 => ?_⟩
   obtain ⟨ST,rfl,hST⟩ := Aa.ofRow rs7
   have hZ7 := (s5.trans (s6.trans s7)) _ _ hZ
   refine ⟨_,rfl,by omega,by omega,DZ (n := (P.bs.length : Int).toNat) (fun i ys H' => H' = H7 /\ ys = []) (by omega) ⟨rfl,rfl⟩ (fun i ys H' h => by rw [h.2]; exact Nat.zero_le _) (fun i ys H' hi h => ?_) fun ys H' h La hLa => ?_⟩
   ·obtain ⟨rfl,rfl⟩ := h
    have hi' : i < P.bs.length := by omega
    obtain ⟨x,hx⟩ : ∃ x,(BA P (only (terms P S) c).cs)[i]? = some x := ⟨_,List.getElem?_eq_getElem (by unfold BA; rw [List.length_map,List.length_range]; exact hi')⟩
    refine ⟨⟨rfl,rfl,trivial⟩,ST,_,_,.int x,rfl,rfl,Ad.of hST,by rw [Int.zero_add]; exact Dg (by rw [List.getElem?_map,hx]; rfl),⟨fun gt => ?_,fun _ => ⟨fun z => (by cases z),fun _ => ⟨rfl,rfl⟩⟩⟩⟩
    refine ⟨Z,_,rfl,.inr (Ad.of hZ7),rfl,F5,?_⟩
    rw [if_pos (by decide),EX,Int.zero_add]
    by_cases hin : (i : Int) ∈ c
    ·rw [decide_eq_true hin]
     exact ⟨fun z => (by cases z),fun _ => ⟨rfl,rfl⟩⟩
    ·rw [PH hin hi'] at hx
     cases hx
     exact absurd gt (by decide)
   obtain ⟨rfl,rfl⟩ := h
   have na := Ab.new (o := .lst []) hLa
   have ka : upd H' La (.lst []) La = some (.lst []) := Ai
   generalize upd H' La (.lst []) = H8 at na ka ⊢
   refine fun Lb H9 s9 hLb kLb => ⟨La,Lb,[],rfl,rfl,s9 _ _ ka,kLb,⟨fun z => (by cases z),fun _ => ?_⟩⟩
   have s19 := s16.trans (s7.trans (na.trans s9))
   have hZ9 := (na.trans s9) _ _ hZ7
   refine ⟨p,P,S,ok,so,Aa.ev (f s19) _ _ r,Aa.ev (f s19) _ _ ru,fun nv H10 s10 rn => ?_⟩
   obtain ⟨NA,rfl,hN⟩ := Aa.ofRow rn
   have ln : (DT P.bs.length (terms P S)).length <= P.bs.length := Nat.le_trans (List.length_filter_le _ _) (by unfold AX; simp)
   refine ⟨NA,rfl,⟨_,Ad.of hN⟩,BO (xs := (DT P.bs.length (terms P S)).map V.int) (fun i ys H' => H' = H10 /\ ys = []) (by rw [List.length_map]; omega) ⟨rfl,rfl⟩ (fun i ys H' h => by rw [h.2]; exact Nat.zero_le _) (fun i ys H' _ h => by rw [h.1]; exact Ad.of hN) (fun i x ys H' hx h => ?_) fun ys H' h Lc hLc => ?_⟩
   ·obtain ⟨rfl,rfl⟩ := h
    obtain ⟨m,hm,rfl⟩ := DU hx
    have hin := RV fl st d0 (List.mem_of_getElem? hm)
    refine ⟨⟨rfl,trivial⟩,Z,_,rfl,.inr (Ad.of (s10 _ _ hZ9)),rfl,F5,?_⟩
    rw [if_pos (by decide),EX,decide_eq_true hin]
    exact ⟨fun z => (by cases z),fun _ => ⟨rfl,rfl⟩⟩
   obtain ⟨rfl,rfl⟩ := h
   have nc := Ab.new (o := .lst []) hLc
   have kc : upd H' Lc (.lst []) Lc = some (.lst []) := Ai
   generalize upd H' Lc (.lst []) = H11 at nc kc ⊢
   refine fun Ld H12 s12' hLd kLd => ⟨Lc,Ld,[],rfl,rfl,s12' _ _ kc,kLd,⟨fun z => (by cases z),fun _ => ?_⟩⟩
   have s1c := s19.trans (s10.trans (nc.trans s12'))
   have hZc := (s10.trans (nc.trans s12')) _ _ hZ9
   refine ⟨Z,rfl,⟨_,Ad.of hZc⟩,IJ (xs := c.map V.int) (fun i σ H' => (∃ x9,σ = [some (.ref PA),some u,some (.ref A),some (.int cf),some (.int (P.bs.length : Int)),some (.ref Z),some y3,some (.int bf),some (.ref ST),x9,none]) /\ Ab H12 H') ⟨⟨_,rfl⟩,Ab.refl _⟩ (fun i σ H' _ h => Ad.of (h.2 _ _ hZc)) (fun i x σ H' hx h => ?_) fun σ H13 h => ?_⟩
   ·obtain ⟨⟨x9,rfl⟩,sm⟩ := h
    obtain ⟨m,hm,rfl⟩ := DU hx
    have hZ' := sm _ _ hZc
    refine ⟨Z,rfl,⟨_,Ad.of hZ'⟩,BO (xs := c.map V.int) (fun j ys G => G = H' /\ ys = ((c.take j).filter fun x => decide (x ≠ m)).map V.int) (by rw [List.length_map]; omega) ⟨rfl,rfl⟩ (fun j ys G h => by rw [h.2,List.length_map]; exact Nat.le_trans (List.length_filter_le _ _) (by rw [List.length_take]; omega)) (fun j ys G _ h => by rw [h.1]; exact Ad.of hZ') (fun j x ys G hx h => ?_) fun ys G h l hl => ?_⟩
    ·obtain ⟨rfl,rfl⟩ := h
     obtain ⟨m',hm',rfl⟩ := DU hx
     refine ⟨⟨rfl,trivial⟩,rfl,fun z => ⟨rfl,?_⟩,fun z => ⟨rfl,?_⟩⟩
     ·have e : m' ≠ m := fun e => by rw [e] at z; simp at z
      rw [Lf hm',if_pos (decide_eq_true e),List.map_append]; rfl
     ·have e : ¬ (m' ≠ m) := fun e => e (by simpa using z)
      rw [Lf hm',if_neg (fun w => e (of_decide_eq_true w))]
    obtain ⟨rfl,rfl⟩ := h
    refine ⟨l,_,rfl,.inl ⟨Am.of Ai,fun l2 hl2 => ?_⟩⟩
    rw [List.length_map,List.take_length] at hl2 ⊢
    have n2 := (Ab.new hl).trans (Ab.new (o := .tup ((c.filter fun x => decide (x ≠ m)).map V.int)) hl2)
    have s1x := s1c.trans (sm.trans n2)
    have stf := st.filter (p := fun x => decide (x ≠ m))
    refine ⟨p,P,S,c.filter fun x => decide (x ≠ m),ok,so,stf,Aa.ev (f s1x) _ _ r,Aa.ev (f s1x) _ _ ru,Aa.row Ai,fun _ G2 sg => ⟨rfl,⟨fun z => (by simp at z),fun _ => ⟨⟨_,rfl⟩,sm.trans (n2.trans sg)⟩⟩⟩,fun no => ?_⟩
    have hlt : (c.filter fun x => decide (x ≠ m)).length < c.length := by
     refine Nat.lt_of_le_of_ne (List.length_filter_le _ _) fun e => ?_
     have := (List.length_filter_eq_length_iff.mp e) m (List.mem_of_getElem? hm)
     simp at this
    have := least _ stf hlt
    unfold BJ at this
    rw [no] at this; cases this
   obtain ⟨⟨x9,rfl⟩,sm⟩ := h
   have s1d := s1c.trans sm
   have hZd := sm _ _ hZc
   refine ⟨_,rfl,by omega,by omega,Dx (n := (P.bs.length : Int).toNat) (fun i σ H' => (∃ x9 x10,σ = [some (.ref PA),some u,some (.ref A),some (.int cf),some (.int (P.bs.length : Int)),some (.ref Z),some y3,some (.int bf),some (.ref ST),x9,x10]) /\ Ab H13 H') ⟨⟨_,_,rfl⟩,Ab.refl _⟩ (fun i σ H' hi h => ?_) fun σ H14 h => ?_⟩
   ·obtain ⟨⟨x9,x10,rfl⟩,sm⟩ := h
    have hi' : i < P.bs.length := by omega
    have hZ' := sm _ _ hZd
    refine ⟨Z,_,rfl,.inr (Ad.of hZ'),rfl,F5,?_⟩
    rw [if_pos (by decide),EX,Int.zero_add]
    refine ⟨fun hn => ?_,fun _ => ⟨⟨_,_,rfl⟩,sm⟩⟩
    have hn : ¬ (i : Int) ∈ c := fun e => by rw [decide_eq_true e] at hn; cases hn
    refine fun t G s0 kt => ⟨Z,t,_,_,rfl,rfl,s0 _ _ hZ',kt,by rw [List.length_map]; show c.length + 1 <= 1000; omega,fun w G1 s1' kw => ?_⟩
    have kw' : G1 w = some (.tup ((c ++ [(i : Int)]).map V.int)) := by rw [kw,List.map_append]; rfl
    refine ⟨w,_,rfl,kw',by rw [List.length_append]; show c.length + 1 < 64; omega,fun l G2 ns s2' hl kl pe up => ⟨l,_,rfl,.inl ⟨Am.of kl,fun l2 hl2 => ?_⟩⟩⟩
    have sg := sm.trans (s0.trans (s1'.trans (s2'.trans (Ab.new (o := .tup (ns.map V.int)) hl2))))
    have s1x := s1d.trans sg
    have sts := RW st hn (by omega) (by omega) pe up
    have sub : ∀ x ∈ c,x ∈ ns := fun x hx => pe.mem_iff.mpr (List.mem_append_left _ hx)
    have no := HZ fl sub d0
    refine ⟨p,P,S,ns,ok,so,sts,Aa.ev (f s1x) _ _ r,Aa.ev (f s1x) _ _ ru,Aa.row Ai,fun n => absurd no n,fun _ mf ps3 G3 hm3 s3' => ⟨rfl,⟨fun z => absurd z (by rw [nn]; decide),fun _ => ⟨fun z => ?_,fun _ => ⟨⟨_,_,rfl⟩,sg.trans s3'⟩⟩⟩⟩⟩
    have := KG fl sub hb hm3
    exact absurd (of_decide_eq_true z) (by omega)
   obtain ⟨⟨x9,x10,rfl⟩,sm⟩ := h
   have s1e := s1d.trans sm
   refine ⟨P.bs.length,rfl,by omega,fun l G s0 kl => ?_⟩
   have s1f := s1e.trans s0
   refine ⟨p,P,S,AX P.bs.length,ok,so,KK,Aa.ev (f s1f) _ _ r,Aa.ev (f s1f) _ _ ru,Aa.row (by rw [kl]; unfold AX; rw [List.map_map]; rfl),fun n => absurd (by rw [all]; exact z) n,fun _ af ps4 G2 ha s2' => ⟨rfl,?_⟩⟩
   rw [all] at ha
   rw [RS ha hf,decide_eq_true rfl]
   exact q _ (s1f.trans s2')
 ·exact h.elim
end
theorem R0 {n : Nat} (h : n <= 1000) : n <= sizeLine := Nat.le_trans h (by decide)
theorem R1 {xs : List V} {lo hi : Option Int} {v : V} (h : v ∈ BE xs lo hi) : v ∈ xs := by unfold BE at h; exact List.mem_of_mem_drop (List.mem_of_mem_take h)
def PairAt (p : Addr) (H : Hp) (x : V) : Prop := ∃ t P S v u,x = .ref t /\ PL.ok P /\ SY.ok S P.bs.length /\ H t = some (.tup [v,u]) /\ Aa p H P.d v /\ Aa p H S.d u
theorem PairAt.ev {p : Addr} {H H' : Hp} {x : V} (h : PairAt p H x) (e : Ev p H H') : PairAt p H' x := by
 obtain ⟨t,P,S,v,u,rfl,ok,so,k,r,ru⟩ := h
 exact ⟨t,P,S,v,u,rfl,ok,so,e.tup k,Aa.ev e _ _ r,Aa.ev e _ _ ru⟩
def sp_lawP (K : PySem.W.Frag) : Sp := fun vs H Q _ => match vs with | [.ref a] => ∃ ns : List Int,Am K H a (ns.map V.int) /\ ns.length <= 63 /\ ∀ H',Q (.bl true) H' | _ => False
theorem R3 {K vs H Q E} (h : sp_lawP K vs H Q E) : vs.length = 1 := by unfold sp_lawP at h; split at h; rfl; exact h.elim
section
variable {P : Program} {w : World} {K : PySem.W.Frag} {mg : Str -> Option Value} {base : Heap}
theorem sc_law : Aw ["_law_script","_law_cell_here","_law_pen_here","_law_plant_here","_law_story_here"] ["_law_script"] (Ap s_law) := Ax
theorem R4 {lf : Addr} {lfd : FuncData} (F : Dz K "law" "law" s_law lf lfd) (T : Tx mg) (D__law_any_pair : Fn P w K mg base 3 "_law_any_pair" ["_law_pen_here","_law_most","_law_hours"] GW) (D__law_cell : Fn P w K mg base 1 "_law_cell" ["_law_script","_law_k"] (Gg K)) (D__law_pair : Fn P w K mg base 3 "_law_pair" ["_law_pen_here","_law_most","_law_hours"] GB) (D__law_pen : Fn P w K mg base 1 "_law_pen" ["_law_cell_here"] Gh) (D__law_right : Fn P w K mg base 17 "_law_right" ["_law_plant_here","_law_story_here"] GX) : Cv P w K mg base CX0 18 lf lfd ["_law_script"] (sp_lawP K) := by
 refine F.ok sc_law (fun vs H Q E h => ?_) (fun cdv A outer s H vs Q E hr h => ?_)
 ·exact R3 h
 refine ⟨_,(Aj (BK PassesOwn.never rfl (Ea K (Av Ov (Ej (AJ (Ag D__law_cell (hr.mono (by decide)) rfl (AS (cy 0) Af)))) (De (Ny K) (cy 0) (Cm Af) (Cm Af)))) (AI 1 sc_law.nd) (Aj (AE (i := 2) sc_law.nd rfl (AA (by rfl)) (Ag D__law_pen (hr.mono (by decide)) rfl (AJ (cy 1)))) (Al (BK PassesOwn.never rfl (Ea K (Ej (Be (Ag D__law_pair (hr.mono (by decide)) rfl (Be (cy 2) Af Af)) (Ag D__law_any_pair (hr.mono (by decide)) rfl (Be (cy 2) Af Af)) (Ag D__law_pair (hr.mono (by decide)) rfl (Be (cy 2) Af Af))))) (AD K (n := 2) (Ah (AI 3 sc_law.nd) (Ah (AI 4 sc_law.nd) AC))) (Al (A1 (BT (BG (Ag D__law_right (hr.mono (by decide)) rfl (AS (cy 3) (cy 4))))) (Al (Ao BC)) AY)))))) (Al (Ao BC))),?_⟩
 unfold sp_lawP at h
 split at h
 ·rename_i a
  obtain ⟨ns,hS,hn63,q⟩ := h
  refine ⟨ns,hS,by decide,fun c0 l1 H01 s01 hl1 k01 => ?_⟩
  have hS1 : Am K H01 a (ns.map V.int) := s01.seq hS
  refine ⟨1,rfl,2,rfl,a,_,rfl,hS1,fun l2 hl2 => ?_⟩
  have lc : (BE (ns.map V.int) (some 1) (some 2)).length <= 63 := Nat.le_trans (Hf _ _ _) (by rw [List.length_map]; exact hn63)
  refine ⟨l1,l2,[.int c0],_,rfl,rfl,(Ab.new hl2) _ _ k01,Ai,R0 (by rw [List.length_singleton]; omega),fun L H02 s02 hL kL => ?_⟩
  have allI : ∀ v ∈ [V.int c0] ++ BE (ns.map V.int) (some 1) (some 2),∃ i,v = .int i := fun v hv => by
   rcases List.mem_append.mp hv with hv | hv
   ·exact ⟨c0,List.mem_singleton.mp hv⟩
   ·obtain ⟨i,_,e⟩ := List.mem_map.mp (R1 hv); exact ⟨i,e.symm⟩
  generalize [V.int c0] ++ BE (ns.map V.int) (some 1) (some 2) = xs at allI kL
  refine ⟨L,rfl,⟨xs,Am.of kL⟩,II (xs := xs) (fun i σ H' => (∃ x1 x2 x3 x4,σ = [some (.ref a),x1,x2,x3,x4]) /\ H' L = some (.lst xs)) ⟨⟨_,_,_,_, rfl⟩,kL⟩ (fun i σ H' _ h => Am.of h.2) (fun i x σ H1 hx h => ?_) fun σ H1 h => q H1⟩
  obtain ⟨⟨x1,x2,x3,x4,rfl⟩,hL1⟩ := h
  obtain ⟨c,rfl⟩ := allI x (List.mem_of_getElem? hx)
  refine fun p l f hp => ?_
  have nLp : L ≠ p := Bd hL1 hp
  have np := Ab.new (o := .lst [.int l,.int f]) hp
  have pn2 : Bc p (upd H1 p (.lst [.int l,.int f])) := ⟨l,f,Ai⟩
  have hL2 := np _ _ hL1
  generalize upd H1 p (.lst [.int l,.int f]) = H2 at np pn2 hL2 ⊢
  refine ⟨pn2,by decide,by decide,by decide,by decide,fun t1 H3 P1 S1 v1 u1 ok1 so1 _ k1 rv1 ru1 e3 pn3 => ?_⟩
  refine ⟨pn3,by decide,by decide,by decide,by decide,fun t2 H4 P2 S2 v2 u2 ok2 so2 k2 rv2 ru2 e4 pn4 => ?_⟩
  refine ⟨pn4,by decide,by decide,by decide,by decide,fun t3 H5 P3 S3 v3 u3 ok3 so3 _ k3 rv3 ru3 e5 pn5 => ?_⟩
  refine fun Lq H6 s6 hLq kLq => ?_
  have hL6 := s6 _ _ (e5.lst (e4.lst (e3.lst hL2 nLp) nLp) nLp)
  have a1 : PairAt p H6 (.ref t1) := PairAt.ev ⟨t1,P1,S1,v1,u1,rfl,ok1,so1,k1,rv1,ru1⟩ (e4.trans (e5.trans (Ev.same s6)))
  have a2 : PairAt p H6 (.ref t2) := PairAt.ev ⟨t2,P2,S2,v2,u2,rfl,ok2,so2,k2,rv2,ru2⟩ (e5.trans (Ev.same s6))
  have a3 : PairAt p H6 (.ref t3) := PairAt.ev ⟨t3,P3,S3,v3,u3,rfl,ok3,so3,k3,rv3,ru3⟩ (Ev.same s6)
  have al : ∀ x ∈ [V.ref t1,V.ref t2,V.ref t3],PairAt p H6 x := fun x hx => by
   simp only [List.mem_cons,List.not_mem_nil,or_false] at hx
   rcases hx with rfl | rfl | rfl
   ·exact a1
   ·exact a2
   ·exact a3
  refine ⟨Lq,rfl,⟨_,Am.of kLq⟩,II (xs := [V.ref t1,V.ref t2,V.ref t3]) (fun i σ H' => (∃ x3 x4,σ = [some (.ref a),some (.int c),some (.ref p),x3,x4]) /\ Ab H6 H') ⟨⟨_,_,rfl⟩,Ab.refl _⟩ (fun i σ H' _ h => Am.of (h.2 _ _ kLq)) (fun i x σ H' hx h => ?_) fun σ H' h => ?_⟩
  ·obtain ⟨⟨x3,x4,rfl⟩,sm⟩ := h
   obtain ⟨t,P,S,v,u,rfl,ok,so,k,r,ru⟩ := (al x (List.mem_of_getElem? hx)).ev (Ev.same sm)
   refine ⟨t,_,rfl,Ad.of k,rfl,_,_,rfl,_,_,rfl,rfl,p,P,S,ok,so,r,ru,fun H7 s7 => ⟨fun z => (by cases z),fun _ => ⟨⟨_,_,rfl⟩,sm.trans s7⟩⟩⟩
  ·obtain ⟨⟨x3,x4,rfl⟩,sm⟩ := h
   exact ⟨⟨_,_,_,_,rfl⟩,sm _ _ hL6⟩
 ·exact h.elim
end
end MF
end
section
namespace MF
open PySem PySem.Spec PyProof.Rows L2
variable {h : Heap} {p0 p1 p2 : Str}
abbrev D4 (K : PySem.W.Frag) (x : Str) (st : Stmt) : Prop := ∃ (f : Addr) (oc : Value) (od an : Option Addr) (sl : Array (Option Value)) (kV dc pm cd ct : Value),PySem.W.nsIn K mainGlobals x = some (some (.ref f)) /\ K.lookup f = some ⟨oc,od,.func (PySem.W.fnOf x x (B5 st) (BN st) (Ap st) .none kV dc pm an cd ct),sl⟩ /\ PySem.W.codeIn K cd x = true /\ PySem.W.keepIn K (.ref f) = true
theorem d4_mk {K : PySem.W.Frag} {x : Str} {st : Stmt} {f : Addr} {oc : Value} {od an : Option Addr} {sl : Array (Option Value)} {kV dc pm cd ct : Value} (a : PySem.W.nsIn K mainGlobals x = some (some (.ref f))) (l : K.lookup f = some ⟨oc,od,.func (PySem.W.fnOf x x (B5 st) (BN st) (Ap st) .none kV dc pm an cd ct),sl⟩) (c : PySem.W.codeIn K cd x = true) (k : PySem.W.keepIn K (.ref f) = true) : D4 K x st := ⟨_,_,_,_,_,_,_,_,_,_,a,l,c,k⟩
theorem GY {K : PySem.W.Frag} {mg : Str -> Option Value} {x : Str} {st : Stmt} {ps : List Str} (X : K.In h) (G : h.Ns mainGlobals mg) (d : D4 K x st)
  (hb : ∀ (kV doc pm : Value) (an : Option Addr) (cdv ct : Value) (us : List Value),us.length = ps.length -> bindArgs (PySem.W.fnOf x x (B5 st) (BN st) (Ap st) .none kV doc pm an cdv ct) ⟨us,[]⟩ = pure (ps.zip us)) : Df K mg x st ps := by
 obtain ⟨f,_,_,_,_,_,_,_,_,_,a,l,c,k⟩ := d
 exact ⟨f,_,Hh l c k,PySem.W.mg_of X G a,(Hh l c k).binds hb⟩
theorem B4 {K : PySem.W.Frag} {mg : Str -> Option Value} {x : Str} {st : Stmt} (X : K.In h) (G : h.Ns mainGlobals mg) (d : D4 K x st) (hb : ∀ (kV doc pm : Value) (an : Option Addr) (cdv ct a0 : Value),bindArgs (PySem.W.fnOf x x (B5 st) (BN st) (Ap st) .none kV doc pm an cdv ct) ⟨[a0],[]⟩ = pure ([p0].zip [a0]) := by intros; rfl) : Df K mg x st [p0] :=
 GY X G d fun _ _ _ _ _ _ us hl => match us,hl with | [_],_ => hb _ _ _ _ _ _ _
theorem A6 {K : PySem.W.Frag} {mg : Str -> Option Value} {x : Str} {st : Stmt} (X : K.In h) (G : h.Ns mainGlobals mg) (d : D4 K x st) (hb : ∀ (kV doc pm : Value) (an : Option Addr) (cdv ct a0 a1 : Value),bindArgs (PySem.W.fnOf x x (B5 st) (BN st) (Ap st) .none kV doc pm an cdv ct) ⟨[a0,a1],[]⟩ = pure ([p0,p1].zip [a0,a1]) := by intros; rfl) : Df K mg x st [p0,p1] :=
 GY X G d fun _ _ _ _ _ _ us hl => match us,hl with | [_,_],_ => hb _ _ _ _ _ _ _ _
theorem Bk {K : PySem.W.Frag} {mg : Str -> Option Value} {x : Str} {st : Stmt} (X : K.In h) (G : h.Ns mainGlobals mg) (d : D4 K x st) (hb : ∀ (kV doc pm : Value) (an : Option Addr) (cdv ct a0 a1 a2 : Value),bindArgs (PySem.W.fnOf x x (B5 st) (BN st) (Ap st) .none kV doc pm an cdv ct) ⟨[a0,a1,a2],[]⟩ = pure ([p0,p1,p2].zip [a0,a1,a2]) := by intros; rfl) : Df K mg x st [p0,p1,p2] :=
 GY X G d fun _ _ _ _ _ _ us hl => match us,hl with | [_,_,_],_ => hb _ _ _ _ _ _ _ _ _
theorem R5 {K : PySem.W.Frag} {mg : Str -> Option Value} {x : Str} {st : Stmt} {p3 : Str} (X : K.In h) (G : h.Ns mainGlobals mg) (d : D4 K x st) (hb : ∀ (kV doc pm : Value) (an : Option Addr) (cdv ct a0 a1 a2 a3 : Value),bindArgs (PySem.W.fnOf x x (B5 st) (BN st) (Ap st) .none kV doc pm an cdv ct) ⟨[a0,a1,a2,a3],[]⟩ = pure ([p0,p1,p2,p3].zip [a0,a1,a2,a3]) := by intros; rfl) : Df K mg x st [p0,p1,p2,p3] :=
 GY X G d fun _ _ _ _ _ _ us hl => match us,hl with | [_,_,_,_],_ => hb _ _ _ _ _ _ _ _ _ _
abbrev R6 (x : Str) (st : Stmt) (kV dc pm : Value) (an : Option Addr) (cd ct : Value) : FuncData := PySem.W.fnOf x x (B5 st) (BN st) (Ap st) .none kV dc pm an cd ct
open PySem.W in
theorem all_mk {l : OpenLaw} {w : World} {K : Frag} {mg : Str -> Option Value} {fa : Addr} (X : K.In h) (G : h.Ns mainGlobals mg) (hfa : mg "law" = some (.ref fa))
  {f : Addr} {od an : Option Addr} {sl : Array (Option Value)} {oc kV dc pm cd ct : Value}
  (a0 : D4 K "_law_draw" s__law_draw)
  (a1 : D4 K "_law_plant" s__law_plant)
  (a2 : D4 K "_law_story" s__law_story)
  (a3 : D4 K "_law_any_pair" s__law_any_pair)
  (a4 : D4 K "_law_cell" s__law_cell)
  (a5 : D4 K "_law_caps" s__law_caps)
  (a6 : D4 K "_law_draws" s__law_draws)
  (a7 : D4 K "_law_mains" s__law_mains)
  (a8 : D4 K "_law_keeps" s__law_keeps)
  (a9 : D4 K "_law_pair" s__law_pair)
  (a10 : D4 K "_law_pen" s__law_pen)
  (a11 : D4 K "floor_at" s_floor_at)
  (a12 : D4 K "tails_from" s_tails_from)
  (a13 : D4 K "highest_floor" s_highest_floor)
  (a14 : D4 K "is_too_much" s_is_too_much)
  (a15 : D4 K "least_stretch" s_least_stretch)
  (a16 : D4 K "coal_under" s_coal_under)
  (a17 : D4 K "is_rising" s_is_rising)
  (a18 : D4 K "is_tuple_of" s_is_tuple_of)
  (a19 : D4 K "is_whole" s_is_whole)
  (a20 : D4 K "is_whole_from" s_is_whole_from)
  (a21 : D4 K "is_set" s_is_set)
  (a22 : D4 K "cap_under" s_cap_under)
  (a23 : D4 K "words_for" s_words_for)
  (a24 : D4 K "caps_in" s_caps_in)
  (a25 : D4 K "is_fault" s_is_fault)
  (a26 : D4 K "is_make_and_coal" s_is_make_and_coal)
  (a27 : D4 K "are_boilers" s_are_boilers)
  (a28 : D4 K "is_engine" s_is_engine)
  (a29 : D4 K "are_engines" s_are_engines)
  (a30 : D4 K "is_main" s_is_main)
  (a31 : D4 K "is_plant" s_is_plant)
  (a32 : D4 K "need_plant" s_need_plant)
  (a33 : D4 K "is_story" s_is_story)
  (a34 : D4 K "need_story" s_need_story)
  (a35 : D4 K "caps_of" s_caps_of)
  (a36 : D4 K "drawn_by" s_drawn_by)
  (a37 : D4 K "draws_of" s_draws_of)
  (a38 : D4 K "terms_of" s_terms_of)
  (a39 : D4 K "with_only" s_with_only)
  (a40 : D4 K "alone" s_alone)
  (a41 : D4 K "least_firing" s_least_firing)
  (a42 : D4 K "cheapest" s_cheapest)
  (a43 : D4 K "is_row" s_is_row)
  (a44 : D4 K "is_firing_within" s_is_firing_within)
  (a45 : D4 K "is_firing" s_is_firing)
  (a46 : D4 K "need_firing" s_need_firing)
  (a47 : D4 K "steam_by" s_steam_by)
  (a48 : D4 K "coal_of" s_coal_of)
  (a49 : D4 K "does" s_does)
  (a50 : D4 K "first_behind" s_first_behind)
  (a51 : D4 K "sets_of" s_sets_of)
  (a52 : D4 K "smaller_sets" s_smaller_sets)
  (a53 : D4 K "fewest" s_fewest)
  (a54 : D4 K "is_stretch" s_is_stretch)
  (a55 : D4 K "is_shown" s_is_shown)
  (a56 : D4 K "are_shown" s_are_shown)
  (a57 : D4 K "run_day" s_run_day)
  (a58 : D4 K "falls_at" s_falls_at)
  (a59 : D4 K "keeps_up" s_keeps_up)
  (a60 : D4 K "is_lit_paper" s_is_lit_paper)
  (a61 : D4 K "is_short_paper" s_is_short_paper)
  (a62 : D4 K "fewest_holds" s_fewest_holds)
  (a63 : D4 K "least_coal" s_least_coal)
  (a64 : D4 K "without" s_without)
  (a65 : D4 K "needed" s_needed)
  (a66 : D4 K "_law_right" s__law_right)
  (a : nsIn K mainGlobals "law" = some (some (.ref f))) (l0 : K.lookup f = some ⟨oc,od,.func (R6 "law" s_law kV dc pm an cd ct),sl⟩) (c : codeIn K cd "law" = true) (k : keepIn K (.ref f) = true)
  (z0 : nsIn K mainGlobals "all" = some none)
  (z1 : nsIn K mainGlobals "bool" = some none)
  (z2 : nsIn K mainGlobals "divmod" = some none)
  (z3 : nsIn K mainGlobals "enumerate" = some none)
  (z4 : nsIn K mainGlobals "int" = some none)
  (z5 : nsIn K mainGlobals "isinstance" = some none)
  (z6 : nsIn K mainGlobals "len" = some none)
  (z7 : nsIn K mainGlobals "list" = some none)
  (z8 : nsIn K mainGlobals "max" = some none)
  (z9 : nsIn K mainGlobals "min" = some none)
  (z10 : nsIn K mainGlobals "range" = some none)
  (z11 : nsIn K mainGlobals "reversed" = some none)
  (z12 : nsIn K mainGlobals "sorted" = some none)
  (z13 : nsIn K mainGlobals "sum" = some none)
  (z14 : nsIn K mainGlobals "tuple" = some none)
  (z15 : nsIn K mainGlobals "zip" = some none)
  {t0 : Tok} (q0 : nsIn K mainGlobals "MOST_BOILERS" = some (some (.int 4 t0)))
  {t1 : Tok} (q1 : nsIn K mainGlobals "MOST_ENGINES" = some (some (.int 4 t1)))
  {t2 : Tok} (q2 : nsIn K mainGlobals "MOST_FAULTS" = some (some (.int 4 t2)))
  {t3 : Tok} (q3 : nsIn K mainGlobals "MOST_HOURS" = some (some (.int 8 t3)))
  {t4 : Tok} (q4 : nsIn K mainGlobals "MOST_UNITS" = some (some (.int 9 t4)))
  {t5 : Tok} (q5 : nsIn K mainGlobals "MOST_EXTRA" = some (some (.int 20 t5)))
  {t6 : Tok} (q6 : nsIn K mainGlobals "MOST_IN_MAIN" = some (some (.int 40 t6)))
  : ∃ fd : FuncData,(∀ (s : Shared) (v : Value),BindsTo s fd ⟨[v],[]⟩ [("_law_script",v)]) /\ ∀ base : Heap,K.In base -> base.Ns mainGlobals mg -> Cv l.prog w K mg base CX0 18 fa fd ["_law_script"] (sp_lawP K) := by
 have e := hfa.symm.trans (PySem.W.mg_of X G a)
 cases e
 have T : Tx mg := ⟨mg_none_of X G z0,mg_none_of X G z1,mg_none_of X G z2,mg_none_of X G z3,mg_none_of X G z4,mg_none_of X G z5,mg_none_of X G z6,mg_none_of X G z7,mg_none_of X G z8,mg_none_of X G z9,mg_none_of X G z10,mg_none_of X G z11,mg_none_of X G z12,mg_none_of X G z13,mg_none_of X G z14,mg_none_of X G z15,⟨_,mg_of X G q0⟩,⟨_,mg_of X G q1⟩,⟨_,mg_of X G q2⟩,⟨_,mg_of X G q3⟩,⟨_,mg_of X G q4⟩,⟨_,mg_of X G q5⟩,⟨_,mg_of X G q6⟩⟩
 have F := Hh (st := s_law) l0 c k
 refine ⟨PySem.W.fnOf "law" "law" (B5 s_law) (BN s_law) (Ap s_law) .none kV dc pm an cd ct,fun s v => .of_eq rfl,fun base _ _ => ?_⟩
 have B__law_draw := Qo (P := l.prog) (w := w) (base := base) (A6 X G a0) T
 have B__law_plant := Qp (A6 X G a1) T B__law_draw
 have B__law_story := QH (Bk X G a2) T B__law_draw
 have B__law_any_pair := RY (Bk X G a3) T B__law_plant B__law_story
 have B__law_cell := Qm (P := l.prog) (w := w) (base := base) (A6 X G a4) T
 have B__law_caps := QI (P := l.prog) (w := w) (base := base) (A6 X G a5) T
 have B__law_draws := QU (P := l.prog) (w := w) (base := base) (A6 X G a6) T
 have B__law_mains := QV (P := l.prog) (w := w) (base := base) (Bk X G a7) T
 have B__law_keeps := QX (Bk X G a8) T B__law_draws B__law_mains
 have B__law_pair := QY (Bk X G a9) T B__law_caps B__law_keeps B__law_plant B__law_story
 have B__law_pen := Qn (P := l.prog) (w := w) (base := base) (B4 X G a10) T
 have B_floor_at := QL (P := l.prog) (w := w) (base := base) (R5 X G a11) T
 have B_tails_from := QM (Bk X G a12) T B_floor_at
 have B_highest_floor := QN (B4 X G a13) T B_tails_from
 have B_is_too_much := QO (P := l.prog) (w := w) (base := base) (A6 X G a14) T
 have B_least_stretch := QP (B4 X G a15) T B_is_too_much
 have B_coal_under := QQ (B4 X G a16) T B_highest_floor B_least_stretch
 have B_is_rising := Ry (P := l.prog) (w := w) (base := base) (B4 X G a17) T
 have B_is_tuple_of := P6 (P := l.prog) (w := w) (base := base) (Bk X G a18) T
 have B_is_whole := PZ (P := l.prog) (w := w) (base := base) (B4 X G a19) T
 have B_is_whole_from := P4 (Bk X G a20) T B_is_whole
 have B_is_set := RA (A6 X G a21) T B_is_rising B_is_tuple_of B_is_whole_from
 have B_cap_under := Qy (P := l.prog) (w := w) (base := base) (A6 X G a22) T
 have B_words_for := QA (P := l.prog) (w := w) (base := base) (Bk X G a23) T
 have B_caps_in := QC (Bk X G a24) T B_cap_under B_words_for
 have B_is_fault := Qt (Bk X G a25) T B_is_tuple_of B_is_whole_from
 have B_is_make_and_coal := Qd (B4 X G a26) T B_is_tuple_of B_is_whole_from
 have B_are_boilers := Qh (B4 X G a27) T B_is_make_and_coal B_is_tuple_of
 have B_is_engine := Qe (B4 X G a28) T B_is_tuple_of B_is_whole_from
 have B_are_engines := Qj (B4 X G a29) T B_is_engine B_is_tuple_of
 have B_is_main := Qf (B4 X G a30) T B_is_tuple_of B_is_whole_from
 have B_is_plant := Qk (B4 X G a31) T B_are_boilers B_are_engines B_is_main B_is_tuple_of
 have B_need_plant := Qs (B4 X G a32) T B_is_plant
 have B_is_story := Qu (A6 X G a33) T B_is_fault B_is_tuple_of B_is_whole_from B_need_plant
 have B_need_story := Qw (A6 X G a34) T B_is_story
 have B_caps_of := QD (A6 X G a35) T B_caps_in B_need_story
 have B_drawn_by := QE (P := l.prog) (w := w) (base := base) (A6 X G a36) T
 have B_draws_of := QF (A6 X G a37) T B_drawn_by B_need_story
 have B_terms_of := QK (A6 X G a38) T B_caps_of B_draws_of
 have B_with_only := RE (P := l.prog) (w := w) (base := base) (A6 X G a39) T
 have B_alone := RO (Bk X G a40) T B_coal_under B_is_set B_terms_of B_with_only
 have B_least_firing := Rr (P := l.prog) (w := w) (base := base) (B4 X G a41) T
 have B_cheapest := Rw (A6 X G a42) T B_highest_floor B_least_firing B_least_stretch B_terms_of
 have B_is_row := Q2 (A6 X G a43) T B_is_tuple_of B_is_whole_from
 have B_is_firing_within := Q4 (A6 X G a44) T B_is_row B_is_tuple_of
 have B_is_firing := Q6 (Bk X G a45) T B_caps_of B_is_firing_within
 have B_need_firing := Q8 (Bk X G a46) T B_is_firing
 have B_steam_by := Rf (Bk X G a47) T B_need_firing
 have B_coal_of := Rh (Bk X G a48) T B_steam_by
 have B_does := RG (A6 X G a49) T B_least_stretch B_with_only
 have B_first_behind := RC (P := l.prog) (w := w) (base := base) (B4 X G a50) T
 have B_sets_of := RD (A6 X G a51) T B_first_behind
 have B_smaller_sets := RI (A6 X G a52) T B_sets_of
 have B_fewest := RJ (A6 X G a53) T B_does B_least_stretch B_sets_of B_smaller_sets B_terms_of B_with_only
 have B_is_stretch := Ro (A6 X G a54) T B_is_tuple_of B_is_whole_from
 have B_is_shown := Rp (A6 X G a55) T B_is_stretch B_is_too_much
 have B_are_shown := RL (Bk X G a56) T B_is_shown B_is_tuple_of B_with_only
 have B_run_day := Q9 (Bk X G a57) T B_draws_of B_need_firing
 have B_falls_at := Ra (Bk X G a58) T B_run_day
 have B_keeps_up := Rc (Bk X G a59) T B_falls_at
 have B_is_lit_paper := RM (Bk X G a60) T B_are_shown B_is_firing_within B_is_set B_is_tuple_of B_keeps_up B_smaller_sets B_terms_of B_with_only
 have B_is_short_paper := Rt (A6 X G a61) T B_is_shown B_is_tuple_of
 have B_fewest_holds := RN (Bk X G a62) T B_is_lit_paper B_is_short_paper B_terms_of
 have B_least_coal := Rv (A6 X G a63) T B_coal_under B_terms_of
 have B_without := RQ (P := l.prog) (w := w) (base := base) (A6 X G a64) T
 have B_needed := RR (A6 X G a65) T B_does B_terms_of B_without
 have B__law_right := RZ (A6 X G a66) T B_alone B_cheapest B_coal_of B_fewest B_fewest_holds B_least_coal B_needed B_steam_by
 exact R4 F T B__law_any_pair B__law_cell B__law_pair B__law_pen B__law_right
end MF
namespace PySem.W.Fast
def tw7559935264721477361:=0
def tw12082046071703768982:=0
def tw6256018661476703731:=0
def tw12566748377506317557:=0
def tw16943564996564086246:=0
def tw4858139226387516515:=0
def tw6243065730786734619:=0
def tw14860781382314247594:=0
def tw2541889921920316762:=0
def tw16965775930606483912:=0
def tw2259789390389922025:=0
def tw10416511096648648724:=0
def tw3834293782365449879:=0
def tw14080394115090338726:=0
def tw15270315950468886660:=0
def tw16861291169786005478:=0
def tw12761240461121889525:=0
def tw8560574120535434968:=0
def tw4982350246189715153:=0
def tw7223133630602845253:=0
def tw15379302457870097151:=0
def tw7792276712492552595:=0
def tw14384234469188588567:=0
def tw2179897265063969552:=0
def tw13255438525117248243:=0
def tw1751766172524834041:=0
def tw14280312375965580489:=0
def tw15338969965294852718:=0
def tw17255373774655459437:=0
def tw1647061417219634733:=0
def tw2067649355981918430:=0
def tw16953736167441902257:=0
def tw4566393982304664114:=0
def tw6022979521408397551:=0
def tw11131011716144631959:=0
def tw4041339955926497652:=0
def tw15837814862880627646:=0
def tw7807392306002921117:=0
def tw17250647855059150445:=0
def tw15891864643366773784:=0
def tw12828223321586208255:=0
def tw10181443844832902474:=0
def tw2232911408432764305:=0
def tw5388143463235063493:=0
def tw5318303415158539534:=0
def tw3702037532138491136:=0
def tw9554772133111087683:=0
def tw7256291845043081278:=0
def tw15170474327566854421:=0
def tw5419823788646554088:=0
def tw12499701395947211626:=0
def tw14020454566006545149:=0
def tw1596687777542997969:=0
def tw18112122083054445245:=0
def tw10477472277353588486:=0
def tw13287437718395219246:=0
def tw11099224743986534183:=0
def tw3329583679895365255:=0
def tw5906283403194920745:=0
def tw11143298022246216742:=0
def tw14648700732913459590:=0
def tw12557445897892091764:=0
def tw3393425644590214567:=0
def tw1152962288013018106:=0
def tw7321783410643541499:=0
def tw7511724351337332532:=0
def tw16115690322106794320:=0
def tw9165797444641790848:=0
def tw1360528538193517165:=0
def tw9770697631375825333:=0
def tw11215896817884739256:=0
def tw5770832730431495951:=0
def tw14204327870409927464:=0
def tw7764839480195493835:=0
def tw12349649812924796631:=0
def tw12319874926065408922:=0
def tw6049446488293676788:=0
def tw5912880794718995415:=0
def tw9763569744794984642:=0
def tw3703215113853160842:=0
def tw12027016582861913987:=0
def tw5076859974303508942:=0
def tw6608315586344124849:=0
def tw2617612068689337884:=0
def tw15661735812771146167:=0
def tw13230978755639657432:=0
def tw9859640570513420307:=0
def tw3510174610497557225:=0
def tw187986635566067559:=0
def tw14703248344817859777:=0
def tw13075336235514945182:=0
def tw15986798547645981056:=0
def tw2029312561640497238:=0
def tw8227424125666799573:=0
def tw2003117849659971803:=0
def tw1335603163334405905:=0
def tw9273503004653665376:=0
def tw1594731786551801410:=0
def tw12244827599122636816:=0
def tw3121130642258259670:=0
def tw7177222072458075810:=0
def tw1908282896031801591:=0
def tw10637930943743641806:=0
def tw3235443553019744004:=0
def tw3006295595638176037:=0
def tw10005561758500292557:=0
def tw8468399934756621733:=0
def tw10440273466502989429:=0
def tw17675397801731760409:=0
def tw13594959597510760944:=0
def tw16387164824410247520:=0
def tw17884742217398432779:=0
def tw14720859579386487357:=0
def tw2788850996527539544:=0
def tw6404857990346725368:=0
def tw15470273144449202142:=0
def tw9213639038893087338:=0
def tw7160425602792375203:=0
def tw1790343769968009723:=0
def tw4166374914011949996:=0
def tw13875088350817763754:=0
def tw13491944813854835971:=0
def tw9310673103667609187:=0
def tw2853187613749551406:=0
def tw17363299624580989330:=0
def tw16689181519675877666:=0
def tw290585996481902457:=0
def tw12901345646027377024:=0
def tw12767559459539735938:=0
def tw16034704599655511654:=0
def tw14081007138841966447:=0
def tw9462276823903934644:=0
def tw14024694684246207705:=0
def tw2147263608413048575:=0
def tw5628501628188022313:=0
def tw15052092644927901907:=0
def tw6937946035749420168:=0
def tw1772896164900320420:=0
def tw6959225427995614767:=0
def tw17272310368885660641:=0
def tw7716405441028698412:=0
def tw12199021294994599474:=0
def tw9629427576525781742:=0
def tw1442918713811996750:=0
def tw15770803439164573489:=0
def tw9876576397800449602:=0
def tw17022076636549751851:=0
def tw5222082628008616302:=0
def tw9990892567621462644:=0
def tw14421416032409553271:=0
def tw3942730272856586493:=0
def tw14856740884943691059:=0
def tw6364535203174103073:=0
def tw17555718141243783346:=0
def tw4978565100562832475:=0
def tw13446970654130179697:=0
def tw10069132401207386607:=0
def tw937435489295262725:=0
def tw4731574231579559488:=0
def tw2157222103654150156:=0
end PySem.W.Fast
open PySem PySem.W PyProof.Rows
set_option maxRecDepth 100000 in
set_option maxHeartbeats 0 in
theorem PySem.Challenge.cw_mainfires_k58_whole_fewest_and_alone_holds : PySem.Challenge.rw_mainfires_k58_whole_fewest_and_alone.Holds := by
 w_on; o_law; k_head; (case hw => w_witness2)
 k_fill
 refine L2.walk_ofK (l := PySem.Challenge.rw_mainfires_k58_whole_fewest_and_alone) (n := 63) (k := 18) (x := "_law_script") (CX := L2.CX0) (sp := MF.sp_lawP) rfl (by decide) rfl ⟨rfl, by decide, by decide, rfl⟩ (fun w h Y => PySem.W.kIn_of Y) ?F (fun _ _ a ns hl _ hS => ⟨ns, hS, hl, fun _ => rfl⟩) (fun _ _ _ _ z => z)
 case F =>
  intro w mg fa h KX G hmg
  refine' MF.all_mk KX G hmg ?_ ?_ ?_ ?_ ?_ ?_ ?_ ?_ ?_ ?_ ?_ ?_ ?_ ?_ ?_ ?_ ?_ ?_ ?_ ?_ ?_ ?_ ?_ ?_ ?_ ?_ ?_ ?_ ?_ ?_ ?_ ?_ ?_ ?_ ?_ ?_ ?_ ?_ ?_ ?_ ?_ ?_ ?_ ?_ ?_ ?_ ?_ ?_ ?_ ?_ ?_ ?_ ?_ ?_ ?_ ?_ ?_ ?_ ?_ ?_ ?_ ?_ ?_ ?_ ?_ ?_ ?_ ?_ ?_ ?_ ?_ ?_ ?_ ?_ ?_ ?_ ?_ ?_ ?_ ?_ ?_ ?_ ?_ ?_ ?_ ?_ ?_ ?_ ?_ ?_ ?_ ?_ ?_ ?_
  all_goals first | refine' MF.d4_mk ?_ ?_ ?_ ?_ | skip
  any_goals k_is
end
