import PyProof.Rows.All
import Wide.All
import OpenK.AllK
import Wide.FinOn
import Lean
import PyProof.EqAt
import PyProof.EqKinds
import PyProof.TupleCall
import PyProof.Draws
import PyProof.ZipIter
import PyProof.EnumMake
import PyProof.IsiPairs
import PyProof.IsiHeapPairs
import PyProof.IsiNone
import PyProof.ReprRoads
import PyProof.ConsumeWalk
import PyProof.NeKinds
import PyProof.Rows.SeqMore
import PyProof.Rows.SortWalk
import PyProof.Rows.StrJoinMade
import PySem.Challenge.RW_mainfires_k01_plants_known
set_option Elab.async false
set_option linter.all false
set_option maxRecDepth 100000
set_option maxHeartbeats 4000000
section
namespace L2
open PySem PySem.Spec PyProof.Rows
abbrev Key := Sum Int Str
def keyIs : Key → Value → Bool
 | .inl k, v => Value.isInt k v
 | .inr x, v => Value.isStrOf x v
def keyH (w : World) : Key → Int
 | .inl k => hashInt k
 | .inr x => hashStr w x
theorem keyIs_shape : ∀ {k : Key} {v : Value}, keyIs k v = true → (∃ i t, k = Sum.inl i ∧ v = Value.int i t) ∨ (∃ x t, k = Sum.inr x ∧ v = Value.str x t)
 | .inl i, v, h => by
  obtain ⟨t, e⟩ := Value.isInt_shape (k := i) (v := v) h
  exact .inl ⟨i, t, rfl, e⟩
 | .inr x, v, h => by
  obtain ⟨t, e⟩ := Value.isStrOf_shape (x := x) (v := v) h
  exact .inr ⟨x, t, rfl, e⟩
theorem key_ll (a b : Int) : decide ((Sum.inl a : Key) = Sum.inl b) = (a == b) := by
 by_cases e : a = b
 ·subst e; simp
 ·have h : ¬ (Sum.inl a : Key) = Sum.inl b := fun q => e (Sum.inl.inj q)
  rw [decide_eq_false h]
  exact (beq_eq_false_iff_ne.mpr e).symm
theorem key_rr (a b : Str) : decide ((Sum.inr a : Key) = Sum.inr b) = decide (a = b) := by
 by_cases e : a = b
 ·subst e; simp
 ·have h : ¬ (Sum.inr a : Key) = Sum.inr b := fun q => e (Sum.inr.inj q)
  rw [decide_eq_false h, decide_eq_false e]
theorem key_lr (a : Int) (b : Str) : decide ((Sum.inl a : Key) = Sum.inr b) = false := decide_eq_false (fun q => nomatch q)
theorem key_rl (a : Str) (b : Int) : decide ((Sum.inr a : Key) = Sum.inl b) = false := decide_eq_false (fun q => nomatch q)
def mixKind (prog : Program) (w : World) : PySem.KeyKind prog w Key where
 is := keyIs
 hash := keyH w
 inj := fun v a b ha hb => by
  rcases keyIs_shape ha with ⟨i, t, rfl, rfl⟩ | ⟨x, t, rfl, rfl⟩
  ·rcases keyIs_shape hb with ⟨j, u, rfl, e⟩ | ⟨y, u, rfl, e⟩
   ·injection e with e1 _; rw [e1]
   ·exact nomatch e
  ·rcases keyIs_shape hb with ⟨j, u, rfl, e⟩ | ⟨y, u, rfl, e⟩
   ·exact nomatch e
   ·injection e with e1 _; rw [e1]
 byValue := fun k v h => by
  rcases keyIs_shape h with ⟨i, t, rfl, rfl⟩ | ⟨x, t, rfl, rfl⟩ <;> rfl
 pyHash := fun hv h => by
  rcases keyIs_shape hv with ⟨i, t, rfl, rfl⟩ | ⟨x, t, rfl, rfl⟩
  ·exact wpAny_pyHash_int h
  ·exact wpAny_pyHash_str h
 eqBool := fun hu hv h => by
  rcases keyIs_shape hu with ⟨i, t, rfl, rfl⟩ | ⟨x, t, rfl, rfl⟩
  ·rcases keyIs_shape hv with ⟨j, u, rfl, rfl⟩ | ⟨y, u, rfl, rfl⟩
   ·rw [key_ll] at h; exact wpAny_eqBool_int h
   ·rw [key_lr] at h; exact SeqAt.EqAt.int_str i t y u _ _ _ _ h
  ·rcases keyIs_shape hv with ⟨j, u, rfl, rfl⟩ | ⟨y, u, rfl, rfl⟩
   ·rw [key_rl] at h; exact SeqAt.EqAt.str_int x t j u _ _ _ _ h
   ·rw [key_rr] at h; exact wpAny_eqBool_str h
 «strs» := fun k x t v h => by
  rcases keyIs_shape h with ⟨i, u, rfl, e⟩ | ⟨y, u, rfl, e⟩
  ·exact nomatch e
  ·injection e with e1 _
   subst e1
   cases v <;> rfl
end L2
namespace L2
open PySem PySem.Spec PyProof.Rows
inductive V where
 | non | bl (b : Bool) | int (i : Int) | str (x : Str) | byt (b : Array UInt8) | flt (b : UInt64) | ref (a : Addr) | ty (n : String)
 deriving DecidableEq
def RelV : V → Value → Prop
 | .non, u => u = Value.none
 | .bl b, u => u = Value.bool b
 | .int i, u => ∃ t, u = Value.int i t
 | .str x, u => ∃ t, u = Value.str x t
 | .byt b, u => ∃ t, u = Value.bytes b t
 | .flt b, u => ∃ t, u = Value.float b t
 | .ref a, u => u = Value.ref a
 | .ty n, u => u = Value.type n
abbrev Vals : List V → List Value → Prop := Paired RelV
theorem Vals.length {xs : List V} {us : List Value} (r : Vals xs us) : xs.length = us.length := Paired.length r
theorem Vals.get : ∀ {xs : List V} {us : List Value} {i : Nat} {x : V}, Vals xs us → xs[i]? = some x → ∃ u, us[i]? = some u ∧ RelV x u
 | _, _, _, _, .nil, e => by simp at e
 | _, _, 0, _, .cons r _, e => by simp at e; subst e; exact ⟨_, rfl, r⟩
 | _, _, i + 1, x, .cons _ t, e => by
  obtain ⟨u, h1, h2⟩ := Vals.get (i := i) (x := x) t (by simpa using e)
  exact ⟨u, by simpa using h1, h2⟩
theorem Vals.set {x : V} {u : Value} (r : RelV x u) : ∀ {xs : List V} {us : List Value} (i : Nat), Vals xs us → Vals (xs.set i x) (us.set i u)
 | _, _, _, .nil => .nil
 | _, _, 0, .cons _ t => .cons r t
 | _, _, i + 1, .cons q t => .cons q (Vals.set r i t)
theorem Vals.append : ∀ {xs ys : List V} {us ws : List Value}, Vals xs us → Vals ys ws → Vals (xs ++ ys) (us ++ ws)
 | _, _, _, _, .nil, s => s
 | _, _, _, _, .cons r t, s => .cons r (Vals.append t s)
theorem Vals.take : ∀ {xs : List V} {us : List Value} (n : Nat), Vals xs us → Vals (xs.take n) (us.take n)
 | _, _, 0, _ => .nil
 | _, _, _ + 1, .nil => .nil
 | _, _, n + 1, .cons r t => .cons r (Vals.take n t)
theorem Vals.drop : ∀ {xs : List V} {us : List Value} (n : Nat), Vals xs us → Vals (xs.drop n) (us.drop n)
 | _, _, 0, r => r
 | _, _, _ + 1, .nil => .nil
 | _, _, n + 1, .cons _ t => Vals.drop n t
def RelO : Option V → Option Value → Prop
 | some v, some u => RelV v u
 | none, none => True
 | _, _ => False
def KV {κ : Type} : List (κ × V) → List (κ × Value) → Prop := Paired fun (p : κ × V) (q : κ × Value) => p.1 = q.1 ∧ RelV p.2 q.2
def kV : Key → V
 | .inl i => .int i
 | .inr x => .str x
inductive HO where
 /-- a list -/
 | lst (xs : List V)
 /-- a tuple (never changes) -/
 | tup (xs : List V)
 /-- a dict whose keys are ints and texts; one whose keys are tuples of ints and texts (the empty one is both) -/
 | dK (kvs : List (Key × V)) | dT (kvs : List (List Key × V))
 /-- a set of ints: its members, its size -/
 | set (S : Int → Bool) (n : Nat)
 /-- an instance of the class at C, its dict at dx, its attributes -/
 | ins (C dx : Addr) (fs : List (Str × V))
 /-- the dict of the instance at x -/
 | own (x : Addr)
 /-- the dict of an exception -/
 | xd (fs : List (Str × V))
 /-- a bound method, f of x -/
 | met (f x : Addr)
 /-- a range object lo, lo + 1, .. below hi -/
 | rng (lo hi : Int)
 /-- a thing that is known to the object (the script; a dict while a loop walks it): read, never written while it is so -/
 | frz (o : Obj) (u : HO)
 /-- a code object's table -/
 | tbl (ps : Array Value)
 /-- any other thing, by what is true of its one object (a def of one's own: SetO a S n := HO.ext fun h => ..) -/
 | ext (φ : Heap → Prop)
abbrev Hp := Addr → Option HO
def upd (H : Hp) (a : Addr) (o : HO) : Hp := fun b => if b = a then some o else H b
theorem upd_same {H : Hp} {a : Addr} {o : HO} : upd H a o a = some o := by unfold upd; rw [if_pos rfl]
theorem upd_ne {H : Hp} {a b : Addr} {o : HO} (h : b ≠ a) : upd H a o b = H b := by unfold upd; rw [if_neg h]
theorem ne_of {H : Hp} {a b : Addr} {o u : HO} (h : H a = some o) (h' : H b = some u) (d : o ≠ u) : a ≠ b := by
 intro e; subst e; rw [h] at h'; exact d (Option.some.inj h')
theorem ne_of_none {H : Hp} {a b : Addr} {o : HO} (h : H a = some o) (h' : H b = none) : a ≠ b := by
 intro e; subst e; rw [h] at h'; cases h'
section
variable (P : Program) (w : World)
def ObjOk (H : Hp) (h : Heap) (a : Addr) : HO → Prop
 | .lst xs => xs.length ≤ sizeLine ∧ ∃ (its : List Value) (n : Nat), Vals xs its ∧ h.get? a = some { cls := .type "list", data := .seq its.toArray n }
 | .tup xs => xs.length ≤ sizeLine ∧ ∃ its : List Value, Vals xs its ∧ IsTup h a its.toArray
 | .dK kvs => kvs.length ≤ sizeLine ∧ (a == sysModules) = false ∧ ∃ vs, KV kvs vs ∧ h.DictOf (mixKind P w) a vs
 | .dT kvs => kvs.length ≤ sizeLine ∧ (a == sysModules) = false ∧ ∃ xs : List (List Key × Addr × Value),
   Paired (fun (p : List Key × V) (q : List Key × Addr × Value) => p.1 = q.1 ∧ H q.2.1 = some (.tup (p.1.map kV)) ∧ RelV p.2 q.2.2) kvs xs ∧
   ∃ o es ep, h.get? a = some o ∧ o.ExactDict ∧ o.data = .dict es ep ∧ es.toList = xs.map (entryOfKey (tupleKind (mixKind P w))) ∧ (xs.map (·.1)).Nodup
 | .set S n => h.SetOf (intKind P w) a S n
 | .ins C dx fs => H dx = some (.own a) ∧ fs.length ≤ 1000 ∧ dx ≠ a ∧ h.get? a = some (PySem.W.instObj C dx) ∧
   ∃ mA, h.Ns1 dx mA ∧ (∀ f, RelO (fs.lookup f) (mA f)) ∧ PySem.Within mA (fs.map (·.1))
 | .own _ => ∃ o, h.get? a = some o
 | .xd fs => ∃ mA, h.Ns1 a mA ∧ ∀ f, RelO (fs.lookup f) (mA f)
 | .rng lo hi => ∃ t u v, h.get? a = some { cls := .type "range", data := .fields #[.int lo t, .int hi u, .int 1 v] }
 | .frz o u => h.get? a = some o ∧ ObjOk H h a u
 | .tbl ps => h.get? a = some { cls := .none, data := .fields ps }
 | .met f x => h.get? a = some (PySem.W.methodObj (.ref f) (.ref x))
 | .ext φ => φ h ∧ (∃ o, h.get? a = some o) ∧ ∀ h1 h2 : Heap, φ h1 → (∀ o, h1.get? a = some o → h2.get? a = some o) → φ h2
def HOk (H : Hp) (h : Heap) : Prop := ∀ a o, H a = some o → ObjOk P w H h a o
end
section
variable {P : Program} {w : World} {H H' : Hp} {h h' : Heap} {a : Addr} {o : HO}
theorem ObjOk.lt (x : ObjOk P w H h a o) : a < h.objs.size := by
 cases o with
 | lst xs => obtain ⟨_, _, _, _, e⟩ := x; exact Heap.lt_size e
 | tup xs => obtain ⟨_, _, _, p⟩ := x; exact p.lt
 | dK kvs => obtain ⟨_, _, _, _, o, _, _, e, _⟩ := x; exact Heap.lt_size e
 | dT kvs => obtain ⟨_, _, _, _, o, _, _, e, _⟩ := x; exact Heap.lt_size e
 | set S n => obtain ⟨o, _, _, _, e, _⟩ := x; exact Heap.lt_size e
 | ins C dx fs => obtain ⟨_, _, _, e, _⟩ := x; exact Heap.lt_size e
 | own y => obtain ⟨_, e⟩ := x; exact Heap.lt_size e
 | xd fs => obtain ⟨_, ⟨_, _, _, e, _⟩, _⟩ := x; exact Heap.lt_size e
 | rng lo hi => obtain ⟨_, _, _, e⟩ := x; exact Heap.lt_size e
 | frz ob u => obtain ⟨e, _⟩ := x; exact Heap.lt_size e
 | tbl ps => exact Heap.lt_size (show h.get? a = some _ from x)
 | met f y => exact Heap.lt_size (show h.get? a = some _ from x)
 | ext φ => obtain ⟨_, ⟨_, e⟩, _⟩ := x; exact Heap.lt_size e
theorem Paired.mapP {α β : Type} {F G : α → β → Prop} : ∀ {l₁ : List α} {l₂ : List β}, Paired F l₁ l₂ → (∀ a b, F a b → G a b) → Paired G l₁ l₂
 | _, _, .nil, _ => .nil
 | _, _, .cons r t, f => .cons (f _ _ r) (Paired.mapP t f)
theorem ObjOk.stay (x : ObjOk P w H h a o) (k : ∀ b u, (b = a ∨ H b = some (.own a)) → h.get? b = some u → h'.get? b = some u)
  (ho : ∀ b, H b = some (.own a) → H' b = some (.own a)) (ht : ∀ b xs, H b = some (.tup xs) → H' b = some (.tup xs)) : ObjOk P w H' h' a o := by
 induction o with
 | lst xs => obtain ⟨z, its, n, r, e⟩ := x; exact ⟨z, its, n, r, k _ _ (.inl rfl) e⟩
 | tup xs => obtain ⟨z, its, r, ob, e, c⟩ := x; exact ⟨z, its, r, ob, k _ _ (.inl rfl) e, c⟩
 | dK kvs => obtain ⟨z, y, vs, r, ob, es, ep, e, c⟩ := x; exact ⟨z, y, vs, r, ob, es, ep, k _ _ (.inl rfl) e, c⟩
 | dT kvs =>
  obtain ⟨z, y, xs, r, ob, es, ep, e, c⟩ := x
  exact ⟨z, y, xs, Paired.mapP r fun p q z => ⟨z.1, ht _ _ z.2.1, z.2.2⟩, ob, es, ep, k _ _ (.inl rfl) e, c⟩
 | set S n => obtain ⟨ob, es, ep, t, e, c⟩ := x; exact ⟨ob, es, ep, t, k _ _ (.inl rfl) e, c⟩
 | ins C dx fs =>
  obtain ⟨d, z, ne, e, mA, ⟨od, es, ep, e2, c⟩, r⟩ := x
  exact ⟨ho _ d, z, ne, k _ _ (.inl rfl) e, mA, ⟨od, es, ep, k _ _ (.inr d) e2, c⟩, r⟩
 | own y => obtain ⟨ob, e⟩ := x; exact ⟨ob, k _ _ (.inl rfl) e⟩
 | xd fs => obtain ⟨mA, ⟨od, es, ep, e, c⟩, r⟩ := x; exact ⟨mA, ⟨od, es, ep, k _ _ (.inl rfl) e, c⟩, r⟩
 | rng lo hi => obtain ⟨t, u, v, e⟩ := x; exact ⟨t, u, v, k _ _ (.inl rfl) e⟩
 | frz ob u ih => obtain ⟨e, q⟩ := x; exact ⟨k _ _ (.inl rfl) e, ih q⟩
 | tbl ps =>
  have e : h.get? a = some { cls := .none, data := .fields ps } := x
  show h'.get? a = some { cls := .none, data := .fields ps }
  exact k a _ (.inl rfl) e
 | met f y =>
  have e : h.get? a = some (PySem.W.methodObj (.ref f) (.ref y)) := x
  show h'.get? a = some (PySem.W.methodObj (.ref f) (.ref y))
  exact k a _ (.inl rfl) e
 | ext φ => obtain ⟨p, ⟨o, e⟩, st⟩ := x; exact ⟨st _ _ p fun o q => k _ _ (.inl rfl) q, ⟨o, k _ _ (.inl rfl) e⟩, st⟩
theorem HOk.lt (x : HOk P w H h) (e : H a = some o) : a < h.objs.size := (x a o e).lt
theorem HOk.fresh (x : HOk P w H h) (e : h.objs.size ≤ a) : H a = none := by
 cases q : H a with
 | none => rfl
 | some u => exact absurd (Nat.lt_of_lt_of_le (x.lt q) e) (Nat.lt_irrefl _)
theorem HOk.kept (x : HOk P w H h) (k : ∀ b u, h.get? b = some u → h'.get? b = some u) : HOk P w H h' := fun a o e =>
 (x a o e).stay (fun b u _ q => k b u q) (fun _ q => q) fun _ _ q => q
theorem HOk.laid (x : HOk P w H h) (k : ∀ b u, h.get? b = some u → h'.get? b = some u) (hp : h.objs.size ≤ a) (new : ObjOk P w (upd H a o) h' a o) : HOk P w (upd H a o) h' := fun b u e => by
 have hn := x.fresh hp
 by_cases hb : b = a
 ·subst hb; rw [upd_same] at e; cases e; exact new
 ·rw [upd_ne hb] at e
  exact (x b u e).stay (fun c v _ q => k c v q) (fun c q => by rw [upd_ne (ne_of_none q hn)]; exact q) fun c xs q => by rw [upd_ne (ne_of_none q hn)]; exact q
end
def Rd (H : Hp) (a : Addr) (u : HO) : Prop := H a = some u ∨ ∃ o, H a = some (.frz o u)
theorem Rd.ok {P : Program} {w : World} {H : Hp} {h : Heap} {a : Addr} {u : HO} (r : Rd H a u) (x : HOk P w H h) : ObjOk P w H h a u := by
 rcases r with r | ⟨o, r⟩
 ·exact x a u r
 ·obtain ⟨_, q⟩ := x a _ r
  exact q
def Mut : Option HO → Prop
 | some (.lst _) => True
 | some (.dK _) => True
 | some (.dT _) => True
 | some (.set _ _) => True
 | some (.ins _ _ _) => True
 | some (.ext _) => True
 | _ => False
section
variable {P : Program} {w : World} {H : Hp} {h h' : Heap} {x e : Addr} {o' : HO}
theorem HOk.write (ok : HOk P w H h) (mu : Mut (H x)) (he : e = x ∨ H e = some (.own x)) (k : ∀ b u, b ≠ e → h.get? b = some u → h'.get? b = some u) (heo : ∃ u, h'.get? e = some u)
  (new : ObjOk P w (upd H x o') h' x o') : HOk P w (upd H x o') h' := fun b u q => by
 have nown : ∀ c y, H c = some (.own y) → c ≠ x := fun c y r z => by subst z; rw [r] at mu; exact mu
 have ntup : ∀ c xs, H c = some (.tup xs) → c ≠ x := fun c xs r z => by subst z; rw [r] at mu; exact mu
 by_cases hb : b = x
 ·subst hb; rw [upd_same] at q; cases q; exact new
 ·rw [upd_ne hb] at q
  by_cases hbe : b = e
  ·have q' : H b = some (.own x) := by
    rcases he with z | z
    ·exact absurd (hbe.trans z) hb
    ·rw [hbe]; exact z
   rw [q] at q'; cases q'
   obtain ⟨v, hv⟩ := heo
   exact ⟨v, by rw [hbe]; exact hv⟩
  ·refine (ok b u q).stay (fun c v hc r => k c v ?_ r) (fun c r => by rw [upd_ne (nown c b r)]; exact r) fun c xs r => by rw [upd_ne (ntup c xs r)]; exact r
   rcases hc with rfl | hc
   ·exact hbe
   ·rintro rfl
    rcases he with z | z
    ·exact nown c b hc z
    ·rw [hc] at z; cases z; exact hb rfl
end
structure Un (fs ex : List Addr) (H H' : Hp) (h h' : Heap) : Prop where
 keep : ∀ b o, h.get? b = some o → H b = none → b ∉ fs → b ∉ ex → h'.get? b = some o
 slot : ∀ b o, h.get? b = some o → H b = none → b ∈ fs → b ∉ ex → ∃ sl, h'.get? b = some { o with slots := sl }
 free : ∀ b o, h.get? b = some o → H b = none → b ∉ ex → H' b = none
 there : ∀ b o, h.get? b = some o → b ∉ ex → ∃ o', h'.get? b = some o'
 tups : ∀ b xs, H b = some (.tup xs) → H' b = some (.tup xs)
 frzs : ∀ b o u, H b = some (.frz o u) → H' b = some (.frz o u)
 tbls : ∀ b ps, H b = some (.tbl ps) → ∃ more, H' b = some (.tbl (ps ++ more))
section
variable {fs fs' ex ex' : List Addr} {H H1 H2 : Hp} {h h1 h2 h' : Heap} {a x e : Addr} {o : HO}
theorem Un.any (u : Un fs ex H H1 h h1) {b : Addr} {ob : Obj} (q : h.get? b = some ob) (n : H b = none) (hx : b ∉ ex) : ∃ sl, h1.get? b = some { ob with slots := sl } := by
 by_cases hb : b ∈ fs
 ·exact u.slot b ob q n hb hx
 ·exact ⟨ob.slots, u.keep b ob q n hb hx⟩
theorem Un.kept (k : ∀ b u, h.get? b = some u → h'.get? b = some u) : Un fs ex H H h h' :=
 ⟨fun b ob q _ _ _ => k b ob q, fun b ob q _ _ _ => ⟨ob.slots, k b ob q⟩, fun _ _ _ n _ => n, fun b ob q _ => ⟨ob, k b ob q⟩, fun _ _ q => q, fun _ _ _ q => q, fun _ ps q => ⟨#[], by rw [q]; simp⟩⟩
theorem Un.refl : Un fs ex H H h h := Un.kept fun _ _ q => q
theorem Un.laid (k : ∀ b u, h.get? b = some u → h'.get? b = some u) (hp : h.objs.size ≤ a) (hn : H a = none) : Un fs ex H (upd H a o) h h' where
 keep := fun b u q _ _ _ => k b u q
 slot := fun b u q _ _ _ => ⟨u.slots, k b u q⟩
 free := fun b u q n _ => by rw [upd_ne (Nat.ne_of_lt (Nat.lt_of_lt_of_le (Heap.lt_size q) hp))]; exact n
 there := fun b u q _ => ⟨u, k b u q⟩
 tups := fun b xs q => by rw [upd_ne (ne_of_none q hn)]; exact q
 frzs := fun b u xs q => by rw [upd_ne (ne_of_none q hn)]; exact q
 tbls := fun b ps q => ⟨#[], by rw [upd_ne (ne_of_none q hn), q]; simp⟩
theorem Un.write (mu : Mut (H x)) (he : e = x ∨ H e = some (.own x)) (k : ∀ b u, b ≠ e → h.get? b = some u → h'.get? b = some u) (heo : ∃ u, h'.get? e = some u) : Un fs ex H (upd H x o) h h' := by
 have hx : ∀ b, H b = none → b ≠ x := fun b n z => by subst z; rw [n] at mu; exact mu
 have hb : ∀ b, H b = none → b ≠ e := fun b n z => by
  subst z
  rcases he with r | r
  ·exact hx b n r
  ·rw [n] at r; cases r
 have hm : ∀ b u, H b = some u → ¬ Mut (some u) → b ≠ x := fun b u q nm z => by subst z; rw [q] at mu; exact nm mu
 refine ⟨fun b u q n _ _ => k b u (hb b n) q, fun b u q n _ _ => ⟨u.slots, k b u (hb b n) q⟩, fun b u q n _ => by rw [upd_ne (hx b n)]; exact n, fun b u q _ => ?_,
  fun b xs q => by rw [upd_ne (hm b _ q fun z => z)]; exact q, fun b u xs q => by rw [upd_ne (hm b _ q fun z => z)]; exact q, fun b ps q => ⟨#[], by rw [upd_ne (hm b _ q fun z => z), q]; simp⟩⟩
 by_cases hbe : b = e
 ·subst hbe; exact heo
 ·exact ⟨u, k b u hbe q⟩
end
def trk (h : Heap) (H : Hp) : List Addr := (List.range h.objs.size).filter fun a => (H a).isSome
def hidT (h : Heap) (H : Hp) : Heap := PySem.W.hideAll h (trk h H)
theorem hidT_size (h : Heap) (H : Hp) : (hidT h H).objs.size = h.objs.size := PySem.W.hideAll_size _ _
theorem hidT_get {h : Heap} {H : Hp} {b : Addr} {o : Obj} (e : h.get? b = some o) (n : H b = none) : (hidT h H).get? b = some o :=
 PySem.W.hideAll_get _ e fun hm => by
  have q : (H b).isSome = true := (List.mem_filter.mp hm).2
  rw [n] at q; simp at q
theorem of_hidT {h : Heap} {H : Hp} {b : Addr} {o : Obj} (e : (hidT h H).get? b = some o) : h.get? b = some o ∧ H b = none := by
 have e' : h.get? b = some o := PySem.W.of_hideAll (trk h H) e
 refine ⟨e', ?_⟩
 cases q : H b with
 | none => rfl
 | some x =>
  have hm : b ∈ trk h H := List.mem_filter.mpr ⟨List.mem_range.mpr (Heap.lt_size e'), by simp [q]⟩
  have z : (hidT h H).get? b = none := PySem.W.hideAll_none (trk h H) hm
  rw [z] at e; cases e
def allNews (g h : Heap) (L : Addr) : List (Addr × Obj) := (List.range h.objs.size).filterMap fun a => if a = L ∨ (g.get? a).isSome = true then none else (h.get? a).map fun o => (a, o)
def rest (g h : Heap) (L d : Addr) : List (Addr × Obj) := (allNews g h L).filter fun p => decide (p.1 ≠ d)
end L2
namespace L2
open PySem PySem.Spec PyProof.Rows
structure Mod (K : PySem.W.Frag) (mg : Str → Option Value) (base : Heap) : Prop where
 kin : K.In base
 glob : base.Ns mainGlobals mg
 blt : ∃ mb, base.Ns builtinsNs mb ∧ ∀ x : Str, x ≠ "__name__" → mb x = bootBuiltins x
 nolimit : base.NoLimit
structure Cx where
 prog : Program
 w : World
 K : PySem.W.Frag
 mg : Str → Option Value
 base : Heap
 A : Around
 N : List Str
 s₀ : Shared
 H₀ : Hp
 env : Env
 outer : List Env
 stack : List Env
 ex : List Addr
 fn : Str → Bool
 calm : Bool
 pn : List (Addr × Obj)
 xe : Value → Shared → Prop
def frs (l : List Env) : List Addr := l.filterMap (·.frame)
abbrev Cx.fs (X : Cx) : List Addr := frs X.outer
def Vis (sc : Scope) (x : Str) : Prop := sc.names.lookup x = some .local ∨ sc.names.lookup x = some .cell ∨ sc.names.lookup x = some .free
def Loc (sc : Scope) (x : Str) : Prop := sc.names.lookup x = some .local ∨ sc.names.lookup x = some .cell
def Look (env : Env) (h : Heap) (m : Str → Option Value) (x : Str) (u : Value) : Prop :=
 (env.kindOf x = some .local ∧ m x = some u) ∨ ((env.kindOf x = some .cell ∨ env.kindOf x = some .free) ∧ ∃ c, env.cells.lookup x = some c ∧ h.IsCell c (some u))
structure Cx.Ok (X : Cx) : Prop where
 mod : Mod X.K X.mg X.base
 kind : X.env.scope.kind = .function
 glob : X.env.globals = mainGlobals
 blt : X.env.builtins = builtinsNs
 above : X.s₀.heap.objs.size ≤ X.env.locals
 inj : ∀ x y c, X.env.cells.lookup x = some c → X.env.cells.lookup y = some c → x = y
 has : ∀ x, (X.env.kindOf x = some .cell ∨ X.env.kindOf x = some .free) → ∃ c, X.env.cells.lookup x = some c
 cab : ∀ x c, X.fn x = true → X.env.cells.lookup x = some c → X.s₀.heap.objs.size ≤ c
 hd : X.calm = true → X.A.handled = none
 frames : X.A.frames = some X.stack
 stk : X.stack = X.outer ∨ (X.stack = X.env :: X.outer ∧ X.env.frame = some X.env.locals)
 exf : ∀ b ∈ X.ex, b ≠ X.env.locals ∧ ∀ x c, X.env.cells.lookup x = some c → c ≠ b
 bs : ∀ b o, X.base.get? b = some o → X.s₀.heap.get? b = some o ∧ X.H₀ b = none
 bsz : X.base.objs.size ≤ X.s₀.heap.objs.size
 noex : ∀ b o, X.base.get? b = some o → b ∉ X.ex
 exfs : ∀ b ∈ X.ex, b ∉ X.fs
 funs : X.s₀.heap.FunFrames X.base X.outer
 frf : ∀ b ∈ X.fs, X.H₀ b = none
structure Inv (X : Cx) (pins : List (Addr × Obj)) (σ : List (Option V)) (H : Hp) (s : Shared) : Prop where
 ok : X.Ok
 os : s.os = X.s₀.os
 bare : AllBare s.gens
 base : Un X.fs X.ex X.H₀ H X.s₀.heap s.heap
 loc : ∃ m, s.heap.Ns X.env.locals m ∧ ∀ (i : Nat) (x : Str) (v : V), X.N[i]? = some x → σ[i]? = some (some v) → Vis X.env.scope x → ∃ u, RelV v u ∧ Look X.env s.heap m x u
 cell : ∀ x c, X.env.cells.lookup x = some c → ∃ v, s.heap.IsCell c v
 free : H X.env.locals = none
 freeC : ∀ x c, X.env.cells.lookup x = some c → H c = none
 pin : ∀ p ∈ X.pn ++ pins, s.heap.get? p.1 = some p.2 ∧ H p.1 = none ∧ p.1 ≠ X.env.locals ∧ p.1 ∉ X.fs ∧ ∀ v, p.2.data ≠ .cell v
 hok : HOk X.prog X.w H s.heap
 len : σ.length = X.N.length
section
variable {X : Cx} {pins : List (Addr × Obj)} {σ : List (Option V)} {H H' : Hp} {s : Shared} {h' : Heap}
theorem Cx.Ok.nofr (ok : X.Ok) {b : Addr} {o : Obj} (e : X.base.get? b = some o) : b ∉ X.fs := fun hb => by
 have := (ok.funs.mem hb).1
 rw [e] at this; cases this
theorem Inv.bs (I : Inv X pins σ H s) : ∀ b o, X.base.get? b = some o → s.heap.get? b = some o ∧ H b = none := fun b o e =>
 ⟨I.base.keep b o (I.ok.bs b o e).1 (I.ok.bs b o e).2 (I.ok.nofr e) (I.ok.noex b o e), I.base.free b o (I.ok.bs b o e).1 (I.ok.bs b o e).2 (I.ok.noex b o e)⟩
theorem Inv.bk (I : Inv X pins σ H s) : ∀ b o, X.base.get? b = some o → s.heap.get? b = some o := fun b o e => (I.bs b o e).1
theorem Inv.mod (I : Inv X pins σ H s) : Mod X.K X.mg X.base := I.ok.mod
theorem Inv.kIn (I : Inv X pins σ H s) : X.K.In s.heap := I.ok.mod.kin.keeps I.bk
theorem Inv.fr (I : Inv X pins σ H s) : ∃ m, Fr X.base X.env.locals s.heap m :=
 let ⟨m, hn, _⟩ := I.loc
 ⟨m, hn, I.bk, Nat.le_trans I.ok.bsz I.ok.above⟩
theorem Inv.lt (I : Inv X pins σ H s) : X.env.locals < s.heap.objs.size := let ⟨_, hn, _⟩ := I.loc; hn.lt
theorem Inv.sz (I : Inv X pins σ H s) : X.s₀.heap.objs.size ≤ s.heap.objs.size := Nat.le_trans I.ok.above (Nat.le_of_lt I.lt)
theorem Inv.nofs (I : Inv X pins σ H s) {a : Addr} (h : s.heap.objs.size ≤ a) : a ∉ X.fs := fun hb => by
 obtain ⟨_, o, ho, _⟩ := I.ok.funs.mem hb
 exact absurd (Nat.lt_of_lt_of_le (Heap.lt_size ho) (Nat.le_trans I.sz h)) (Nat.lt_irrefl _)
theorem Inv.cne (I : Inv X pins σ H s) : ∀ x c, X.env.cells.lookup x = some c → c ≠ X.env.locals := fun x c e z => by
 obtain ⟨v, o, ho, hd⟩ := I.cell x c e
 obtain ⟨m, ⟨o', es, ep, ho', hd', _⟩, _⟩ := I.loc
 rw [z, ho'] at ho; cases ho; rw [hd'] at hd; cases hd
theorem Inv.funs (I : Inv X pins σ H s) : s.heap.FunFrames X.base X.outer := by
 have all : ∀ (l : List Env), (∀ b ∈ frs l, b ∈ X.fs) → X.s₀.heap.FunFrames X.base l → s.heap.FunFrames X.base l := by
  intro l
  induction l with
  | nil => intro _ _; trivial
  | cons env r ih =>
   intro hs hl
   obtain ⟨hk, ⟨L, o, hf, hn, ho, hd⟩, hr⟩ := hl
   have hL : L ∈ X.fs := hs L (by unfold frs; rw [List.filterMap_cons, hf]; exact List.mem_cons_self)
   obtain ⟨sl, e⟩ := I.base.slot L o ho (I.ok.frf L hL) hL fun z => I.ok.exfs L z hL
   exact ⟨hk, ⟨L, _, hf, hn, e, hd⟩, ih (fun b hb => hs b (by unfold frs; rw [List.filterMap_cons, hf]; exact List.mem_cons_of_mem _ hb)) hr⟩
 exact all X.outer (fun _ hb => hb) I.ok.funs
theorem Inv.stack (I : Inv X pins σ H s) : s.heap.FunFrames X.base X.stack := by
 rcases I.ok.stk with e | ⟨e, hf⟩
 ·rw [e]; exact I.funs
 ·rw [e]
  obtain ⟨m, hn, _⟩ := I.loc
  refine .cons (by rw [I.ok.kind]; decide) hf hn ?_ I.funs
  exact Heap.get?_none_of_le (Nat.le_trans I.ok.bsz I.ok.above)
theorem Inv.stkSub (I : Inv X pins σ H s) : ∀ b ∈ frs X.stack, b ∈ X.env.locals :: X.fs := fun b hb => by
 rcases I.ok.stk with e | ⟨e, hf⟩
 ·rw [e] at hb; exact List.mem_cons_of_mem _ hb
 ·rw [e] at hb
  unfold frs at hb
  rw [List.filterMap_cons, hf] at hb
  exact hb
theorem Inv.stkFree (I : Inv X pins σ H s) : ∀ b ∈ frs X.stack, H b = none := fun b hb => by
 rcases List.mem_cons.mp (I.stkSub b hb) with e | hb
 ·rw [e]; exact I.free
 ·obtain ⟨_, o, ho, _⟩ := I.ok.funs.mem hb
  exact I.base.free b o ho (I.ok.frf b hb) fun z => I.ok.exfs b z hb
theorem Inv.step {g' : Array GenState} {t' : Nat} {d' : Drawn} {ch : List Addr} (I : Inv X pins σ H s)
  (hch : ∀ b ∈ ch, (b ∈ X.ex ∨ X.s₀.heap.objs.size ≤ b) ∧ b ≠ X.env.locals ∧ (∀ x c, X.env.cells.lookup x = some c → c ≠ b) ∧ ∀ p ∈ X.pn ++ pins, p.1 ≠ b)
  (keep : ∀ b o, b ≠ X.env.locals → b ∉ X.fs → b ∉ ch → s.heap.get? b = some o → H b = none → h'.get? b = some o)
  (slot : ∀ b o, b ≠ X.env.locals → b ∈ X.fs → b ∉ ch → s.heap.get? b = some o → H b = none → ∃ sl, h'.get? b = some { o with slots := sl }) (free : ∀ b o, b ∉ ch → s.heap.get? b = some o → H b = none → H' b = none)
  (there : ∀ b o, b ∉ ch → s.heap.get? b = some o → ∃ o', h'.get? b = some o')
  (tups : ∀ b xs, H b = some (.tup xs) → H' b = some (.tup xs)) (frzs : ∀ b o u, H b = some (.frz o u) → H' b = some (.frz o u)) (tbls : ∀ b ps, H b = some (.tbl ps) → ∃ more, H' b = some (.tbl (ps ++ more)))
  (ns : ∀ m, s.heap.Ns X.env.locals m → h'.Ns X.env.locals m) (hok : HOk X.prog X.w H' h') (hg : AllBare g') :
  Inv X pins σ H' { s with heap := h', gens := g', drawn := d', toks := t' } := by
 have neL : ∀ b o, X.s₀.heap.get? b = some o → b ≠ X.env.locals := fun b o e => Nat.ne_of_lt (Nat.lt_of_lt_of_le (Heap.lt_size e) I.ok.above)
 have neC : ∀ b o, X.s₀.heap.get? b = some o → b ∉ X.ex → b ∉ ch := fun b o e hx hb => by
  rcases (hch b hb).1 with z | z
  ·exact hx z
  ·exact absurd (Nat.lt_of_lt_of_le (Heap.lt_size e) z) (Nat.lt_irrefl _)
 have cellK : ∀ x c, X.env.cells.lookup x = some c → ∀ v, s.heap.IsCell c v → h'.IsCell c v := fun x c e v ⟨o, ho, hd⟩ => by
  have nch : c ∉ ch := fun z => (hch c z).2.2.1 x c e rfl
  by_cases hc : c ∈ X.fs
  ·obtain ⟨sl, q⟩ := slot c o (I.cne x c e) hc nch ho (I.freeC x c e)
   exact ⟨_, q, hd⟩
  ·exact ⟨o, keep c o (I.cne x c e) hc nch ho (I.freeC x c e), hd⟩
 refine ⟨I.ok, I.os, hg, ⟨fun b o e n hb hx => ?_, fun b o e n hb hx => ?_, fun b o e n hx => ?_, fun b o e hx => ?_, fun b xs e => tups b xs (I.base.tups b xs e), fun b o xs e => frzs b o xs (I.base.frzs b o xs e), fun b ps e => ?_⟩, ?_, fun x c e => ?_, ?_, fun x c e => ?_, fun p hp => ?_, hok, I.len⟩
 ·exact keep b o (neL b o e) hb (neC b o e hx) (I.base.keep b o e n hb hx) (I.base.free b o e n hx)
 ·obtain ⟨sl, e1⟩ := I.base.slot b o e n hb hx
  obtain ⟨sl', e2⟩ := slot b _ (neL b o e) hb (neC b o e hx) e1 (I.base.free b o e n hx)
  exact ⟨sl', e2⟩
 ·obtain ⟨o', e1⟩ := I.base.there b o e hx
  exact free b o' (neC b o e hx) e1 (I.base.free b o e n hx)
 ·obtain ⟨o', e1⟩ := I.base.there b o e hx
  exact there b o' (neC b o e hx) e1
 ·obtain ⟨m1, e1⟩ := I.base.tbls b ps e
  obtain ⟨m2, e2⟩ := tbls b _ e1
  exact ⟨m1 ++ m2, by rw [e2, Array.append_assoc]⟩
 ·obtain ⟨m, hn, hl⟩ := I.loc
  refine ⟨m, ns m hn, fun i x v e1 e2 e3 => ?_⟩
  obtain ⟨u, r, l⟩ := hl i x v e1 e2 e3
  refine ⟨u, r, ?_⟩
  rcases l with l | ⟨k, c, e, z⟩
  ·exact .inl l
  ·exact .inr ⟨k, c, e, cellK x c e _ z⟩
 ·obtain ⟨v, z⟩ := I.cell x c e
  exact ⟨v, cellK x c e v z⟩
 ·obtain ⟨m, ⟨o, _, _, ho, _⟩, _⟩ := I.loc
  exact free _ o (fun z => (hch _ z).2.1 rfl) ho I.free
 ·obtain ⟨v, o, ho, hd⟩ := I.cell x c e
  exact free c o (fun z => (hch c z).2.2.1 x c e rfl) ho (I.freeC x c e)
 ·obtain ⟨e, n, ne, nf, d⟩ := I.pin p hp
  have nch : p.1 ∉ ch := fun z => (hch p.1 z).2.2.2 p hp rfl
  exact ⟨keep p.1 p.2 ne nf nch e n, free p.1 p.2 nch e n, ne, nf, d⟩
theorem Inv.un {t' : Nat} (I : Inv X pins σ H s) (u : Un X.fs [] H H' s.heap h') (hok : HOk X.prog X.w H' h') : Inv X pins σ H' { s with heap := h', toks := t' } := by
 obtain ⟨m, ⟨o, es, ep, ho, r⟩, _⟩ := id I.loc
 obtain ⟨sl, hL⟩ := u.any ho I.free (by simp)
 exact I.step (g' := s.gens) (d' := s.drawn) (ch := []) (fun _ z => nomatch z) (fun b o _ hb _ e n => u.keep b o e n hb (by simp)) (fun b o _ hb _ e n => u.slot b o e n hb (by simp)) (fun b o _ e n => u.free b o e n (by simp)) (fun b o _ e => u.there b o e (by simp)) u.tups u.frzs u.tbls (fun m' hm => by
  obtain ⟨o', es', ep', ho', r'⟩ := hm
  rw [ho] at ho'; cases ho'
  exact ⟨_, es', ep', hL, r'⟩) hok I.bare
theorem Inv.call {g' : Array GenState} {t' : Nat} {d' : Drawn} {ch : List Addr} (I : Inv X pins σ H s) (u : Un (frs X.stack) ch H H' s.heap h') (hok : HOk X.prog X.w H' h') (hg : AllBare g')
  (hch : ∀ b ∈ ch, (b ∈ X.ex ∨ X.s₀.heap.objs.size ≤ b) ∧ b ≠ X.env.locals ∧ (∀ x c, X.env.cells.lookup x = some c → c ≠ b) ∧ ∀ p ∈ X.pn ++ pins, p.1 ≠ b) :
  Inv X pins σ H' { s with heap := h', gens := g', drawn := d', toks := t' } := by
 obtain ⟨m, ⟨o, es, ep, ho, r⟩, _⟩ := id I.loc
 obtain ⟨sl, hL⟩ := u.any ho I.free fun z => (hch _ z).2.1 rfl
 exact I.step (ch := ch) hch (fun b o hL hb hc e n => u.keep b o e n (fun z => (List.mem_cons.mp (I.stkSub b z)).elim hL hb) hc) (fun b o _ _ hc e n => u.any e n hc) (fun b o hc e n => u.free b o e n hc) (fun b o hc e => u.there b o e hc) u.tups u.frzs u.tbls (fun m' hm => by
  obtain ⟨o', es', ep', ho', r'⟩ := hm
  rw [ho] at ho'; cases ho'
  exact ⟨_, es', ep', hL, r'⟩) hok hg
theorem Inv.turned {t' : Nat} {it : Addr} (I : Inv X pins σ H s) (k : ∀ b o, b ≠ it → s.heap.get? b = some o → h'.get? b = some o) (hn : H it = none) (hL : it ≠ X.env.locals)
  (h1 : it ∈ X.ex ∨ X.s₀.heap.objs.size ≤ it) (h2 : ∀ x c, X.env.cells.lookup x = some c → c ≠ it) (h3 : ∀ p ∈ X.pn ++ pins, p.1 ≠ it) : Inv X pins σ H { s with heap := h', toks := t' } := by
 have nit : ∀ b u, H b = some u → b ≠ it := fun b u e z => by rw [z, hn] at e; cases e
 refine I.step (g' := s.gens) (d' := s.drawn) (ch := [it]) (fun b hb => ?_) (fun b o _ _ hc e _ => k b o (fun z => hc (by simp [z])) e) (fun b o _ _ hc e _ => ⟨o.slots, k b o (fun z => hc (by simp [z])) e⟩) (fun _ _ _ _ n => n)
  (fun b o hc e => ⟨o, k b o (fun z => hc (by simp [z])) e⟩) (fun _ _ e => e) (fun _ _ _ e => e) (fun b ps e => ⟨#[], by rw [e]; simp⟩) (fun m hm => ?_) (fun b u e => ?_) I.bare
 ·have e : b = it := by simpa using hb
  subst e
  exact ⟨h1, hL, h2, h3⟩
 ·obtain ⟨o, es, ep, ho, r⟩ := hm
  exact ⟨o, es, ep, k _ o (Ne.symm hL) ho, r⟩
 ·refine (I.hok b u e).stay (fun c v hc q => k c v ?_ q) (fun _ q => q) fun _ _ q => q
  rcases hc with z | z
  ·rw [z]; exact nit b u e
  ·exact nit c _ z
theorem Inv.tok (I : Inv X pins σ H s) (t : Nat) : Inv X pins σ H { s with toks := t } := I.un (h' := s.heap) (t' := t) Un.refl I.hok
theorem Inv.kept {t' : Nat} (I : Inv X pins σ H s) (k : ∀ b u, s.heap.get? b = some u → h'.get? b = some u) : Inv X pins σ H { s with heap := h', toks := t' } := I.un (Un.kept k) (I.hok.kept k)
theorem Inv.laid {a : Addr} {o : HO} {t' : Nat} (I : Inv X pins σ H s) (k : ∀ b u, s.heap.get? b = some u → h'.get? b = some u) (hp : s.heap.objs.size ≤ a) (new : ObjOk X.prog X.w (upd H a o) h' a o) :
  Inv X pins σ (upd H a o) { s with heap := h', toks := t' } := I.un (Un.laid k hp (I.hok.fresh hp)) (I.hok.laid k hp new)
theorem Inv.write {x e : Addr} {o : HO} {t' : Nat} (I : Inv X pins σ H s) (mu : Mut (H x)) (he : e = x ∨ H e = some (.own x)) (k : ∀ b u, b ≠ e → s.heap.get? b = some u → h'.get? b = some u) (heo : ∃ u, h'.get? e = some u)
  (new : ObjOk X.prog X.w (upd H x o) h' x o) : Inv X pins σ (upd H x o) { s with heap := h', toks := t' } := I.un (Un.write mu he k heo) (I.hok.write mu he k heo new)
theorem Inv.weak {σ' : List (Option V)} (I : Inv X pins σ H s) (hl : σ'.length = σ.length) (w : ∀ (i : Nat) v, σ'[i]? = some (some v) → σ[i]? = some (some v)) : Inv X pins σ' H s :=
 ⟨I.ok, I.os, I.bare, I.base, let ⟨m, hn, hl'⟩ := I.loc; ⟨m, hn, fun i x v e1 e2 e3 => hl' i x v e1 (w i v e2) e3⟩, I.cell, I.free, I.freeC, I.pin, I.hok, hl.trans I.len⟩
theorem Inv.pins_of {pins' : List (Addr × Obj)} (I : Inv X pins σ H s) (h : ∀ p ∈ pins', s.heap.get? p.1 = some p.2 ∧ H p.1 = none ∧ p.1 ≠ X.env.locals ∧ p.1 ∉ X.fs ∧ ∀ v, p.2.data ≠ .cell v) : Inv X pins' σ H s :=
 ⟨I.ok, I.os, I.bare, I.base, I.loc, I.cell, I.free, I.freeC, fun p hp => (List.mem_append.mp hp).elim (fun z => I.pin p (List.mem_append_left _ z)) (h p), I.hok, I.len⟩
theorem nodup_ix {N : List Str} (hN : N.Nodup) {i j : Nat} {x : Str} (a : N[i]? = some x) (b : N[j]? = some x) : i = j := by
 obtain ⟨h1, e1⟩ := List.getElem?_eq_some_iff.mp a
 obtain ⟨h2, e2⟩ := List.getElem?_eq_some_iff.mp b
 exact (List.getElem_inj hN).mp (e1.trans e2.symm)
theorem store_ok2 {M : Model} {A : Around} {E : Value → Shared → Prop} {i : Nat} {x : Str} {v : V} {u : Value} {Q : Unit → Shared → Prop} (I : Inv X pins σ H s) (hN : X.N.Nodup) (hi : X.N[i]? = some x) (hx : Loc X.env.scope x) (r : RelV v u)
  (h : ∀ s', Inv X pins (σ.set i (some v)) H s' → (∃ a, Heap.SameBut a s.heap s'.heap ∧ (a = X.env.locals ∨ X.env.cells.lookup x = some a)) → Q () s') (hf : X.fn x = true ∨ X.env.scope.names.lookup x = some .local := by first | exact .inl rfl | exact .inr rfl | assumption) : wpAny M A (storeName X.env x u) Q E s := by
 obtain ⟨m, hn, hl⟩ := id I.loc
 have hcls : (X.env.scope.kind == .class || (X.env.scope.kind == .module && X.env.locals != X.env.globals)) = false := by rw [I.ok.kind]; rfl
 have hiσ : i < σ.length := by rw [I.len]; exact (List.getElem?_eq_some_iff.mp hi).1
 have cne := I.cne
 have tracked : ∀ {a : Addr} {h' : Heap}, (∃ o, s.heap.get? a = some o ∧ H a = none) → Heap.SameBut a s.heap h' → HOk X.prog X.w H h' := fun {a h'} ha hs b ob e => by
  obtain ⟨_, _, hfree⟩ := ha
  refine (I.hok b ob e).stay (fun c w' hc q => (hs.2 c ?_).trans q) (fun _ q => q) fun _ _ q => q
  rintro rfl
  rcases hc with rfl | hc
  ·rw [hfree] at e; cases e
  ·rw [hfree] at hc; cases hc
 rcases hx with hk | hk
 ·refine wpAny_storeName_local hk hn (fun h' hn' hs => ?_) hcls
  obtain ⟨oL, _, _, hoL, _⟩ := id hn
  refine h _ ⟨I.ok, I.os, I.bare, ⟨fun b o e n hb hx => ?_, fun b o e n hb hx => ?_, I.base.free, fun b o e hx => ?_, I.base.tups, I.base.frzs, I.base.tbls⟩, ⟨_, hn', fun j y v' e1 e2 e3 => ?_⟩, fun y c e => ?_, I.free, I.freeC, fun p hp => ?_, tracked ⟨oL, hoL, I.free⟩ hs, by simpa using I.len⟩ ⟨_, hs, .inl rfl⟩
  ·exact (hs.2 b (Nat.ne_of_lt (Nat.lt_of_lt_of_le (Heap.lt_size e) I.ok.above))).trans (I.base.keep b o e n hb hx)
  ·obtain ⟨sl, e1⟩ := I.base.slot b o e n hb hx
   exact ⟨sl, (hs.2 b (Nat.ne_of_lt (Nat.lt_of_lt_of_le (Heap.lt_size e) I.ok.above))).trans e1⟩
  ·obtain ⟨o', e1⟩ := I.base.there b o e hx
   exact ⟨o', (hs.2 b (Nat.ne_of_lt (Nat.lt_of_lt_of_le (Heap.lt_size e) I.ok.above))).trans e1⟩
  ·by_cases hj : j = i
   ·subst hj
    rw [hi] at e1; cases e1
    rw [List.getElem?_set_self hiσ] at e2
    cases e2
    exact ⟨u, r, .inl ⟨hk, by simp⟩⟩
   ·rw [List.getElem?_set_ne (Ne.symm hj)] at e2
    obtain ⟨u', r', q⟩ := hl j y v' e1 e2 e3
    refine ⟨u', r', ?_⟩
    rcases q with ⟨k, e⟩ | ⟨k, c, e, z⟩
    ·refine .inl ⟨k, ?_⟩
     have : y ≠ x := fun e => hj (nodup_ix hN e1 (e ▸ hi))
     simp [this, e]
    ·exact .inr ⟨k, c, e, z.sameBut hs (cne y c e)⟩
  ·obtain ⟨w', z⟩ := I.cell y c e
   exact ⟨w', z.sameBut hs (cne y c e)⟩
  ·obtain ⟨e, n, ne, nf, d⟩ := I.pin p hp
   exact ⟨(hs.2 p.1 ne).trans e, n, ne, nf, d⟩
 ·have hfn : X.fn x = true := by
   rcases hf with z | z
   ·exact z
   ·rw [z] at hk; cases hk
  obtain ⟨c, hc⟩ := I.ok.has x (.inl hk)
  obtain ⟨w', z⟩ := I.cell x c hc
  refine wpAny_storeName_cell I.ok.kind hk hc z (fun h' hc' hs => ?_)
  obtain ⟨oc, hoc, hocd⟩ := id z
  refine h { s with heap := h' } ⟨I.ok, I.os, I.bare, ⟨fun b o e n hb hx => ?_, fun b o e n hb hx => ?_, I.base.free, fun b o e hx => ?_, I.base.tups, I.base.frzs, I.base.tbls⟩, ⟨m, hn.sameBut hs (Ne.symm (cne x c hc)), fun j y v' e1 e2 e3 => ?_⟩, fun y c' e => ?_, I.free, I.freeC, fun p hp => ?_, tracked ⟨oc, hoc, I.freeC x c hc⟩ hs, by simpa using I.len⟩ ⟨c, hs, .inr hc⟩
  ·exact (hs.2 b (Nat.ne_of_lt (Nat.lt_of_lt_of_le (Heap.lt_size e) (I.ok.cab x c hfn hc)))).trans (I.base.keep b o e n hb hx)
  ·obtain ⟨sl, e1⟩ := I.base.slot b o e n hb hx
   exact ⟨sl, (hs.2 b (Nat.ne_of_lt (Nat.lt_of_lt_of_le (Heap.lt_size e) (I.ok.cab x c hfn hc)))).trans e1⟩
  ·obtain ⟨o', e1⟩ := I.base.there b o e hx
   exact ⟨o', (hs.2 b (Nat.ne_of_lt (Nat.lt_of_lt_of_le (Heap.lt_size e) (I.ok.cab x c hfn hc)))).trans e1⟩
  ·by_cases hj : j = i
   ·subst hj
    rw [hi] at e1; cases e1
    rw [List.getElem?_set_self hiσ] at e2
    cases e2
    exact ⟨u, r, .inr ⟨.inl hk, c, hc, hc'⟩⟩
   ·rw [List.getElem?_set_ne (Ne.symm hj)] at e2
    obtain ⟨u', r', q⟩ := hl j y v' e1 e2 e3
    refine ⟨u', r', ?_⟩
    rcases q with q | ⟨k, c', e, z'⟩
    ·exact .inl q
    ·refine .inr ⟨k, c', e, z'.sameBut hs ?_⟩
     rintro rfl
     exact hj (nodup_ix hN e1 (I.ok.inj _ _ _ e hc ▸ hi))
  ·by_cases hcc : c' = c
   ·subst hcc; exact ⟨_, hc'⟩
   ·obtain ⟨w2, z2⟩ := I.cell y c' e
    exact ⟨w2, z2.sameBut hs hcc⟩
  ·obtain ⟨e, n, ne, nf, d⟩ := I.pin p hp
   refine ⟨(hs.2 p.1 ?_).trans e, n, ne, nf, d⟩
   intro q
   rw [q, hoc] at e
   have q' : oc = p.2 := Option.some.inj e
   exact d w' (by rw [← q']; exact hocd)
theorem store_ok {M : Model} {A : Around} {E : Value → Shared → Prop} {i : Nat} {x : Str} {v : V} {u : Value} {Q : Unit → Shared → Prop} (I : Inv X pins σ H s) (hN : X.N.Nodup) (hi : X.N[i]? = some x) (hx : Loc X.env.scope x) (r : RelV v u)
  (h : ∀ s', Inv X pins (σ.set i (some v)) H s' → Q () s') (hf : X.fn x = true ∨ X.env.scope.names.lookup x = some .local := by first | exact .inl rfl | exact .inr rfl | assumption) : wpAny M A (storeName X.env x u) Q E s :=
 store_ok2 I hN hi hx r (fun s' I' _ => h s' I') hf
theorem Inv.call' {s' : Shared} {ch : List Addr} (I : Inv X pins σ H s) (ho : s'.os = s.os) (u : Un (frs X.stack) ch H H' s.heap s'.heap) (hok : HOk X.prog X.w H' s'.heap) (hg : AllBare s'.gens)
  (hch : ∀ b ∈ ch, (b ∈ X.ex ∨ X.s₀.heap.objs.size ≤ b) ∧ b ≠ X.env.locals ∧ (∀ x c, X.env.cells.lookup x = some c → c ≠ b) ∧ ∀ p ∈ X.pn ++ pins, p.1 ≠ b) : Inv X pins σ H' s' := by
 obtain ⟨h', g', d', t', o'⟩ := s'
 have e : o' = s.os := ho
 subst e
 exact I.call (g' := g') (t' := t') (d' := d') u hok hg hch
end
abbrev XK := Value → Option Addr → Hp → Prop
abbrev St := List (Option V)
abbrev VK := V → Hp → Prop
abbrev TE := St → Hp → VK → Prop
abbrev TT := St → Hp → (Bool → Hp → Prop) → Prop
abbrev TA := St → Hp → (List V → Hp → Prop) → Prop
structure Ends where
 nx : St → Hp → Prop
 rt : VK
 bk : St → Hp → Prop := fun _ _ => False
 ct : St → Hp → Prop := fun _ _ => False
abbrev TS := Ends → St → Hp → Prop
def EP (X : Cx) (pins : List (Addr × Obj)) (σ : St) (Q : VK) (u : Value) (s' : Shared) : Prop := ∃ v H', Inv X pins σ H' s' ∧ RelV v u ∧ Q v H'
def TP (X : Cx) (pins : List (Addr × Obj)) (σ : St) (Q : Bool → Hp → Prop) (b : Bool) (s' : Shared) : Prop := ∃ H', Inv X pins σ H' s' ∧ Q b H'
def AP (X : Cx) (pins : List (Addr × Obj)) (σ : St) (Q : List V → Hp → Prop) (us : List Value) (s' : Shared) : Prop := ∃ vs H', Inv X pins σ H' s' ∧ Vals vs us ∧ Q vs H'
def SP (X : Cx) (pins : List (Addr × Obj)) (D : Ends) (f : Flow) (s' : Shared) : Prop :=
 match f with
 | .next => ∃ σ' H', Inv X pins σ' H' s' ∧ D.nx σ' H'
 | .brk => ∃ σ' H', Inv X pins σ' H' s' ∧ D.bk σ' H'
 | .cont => ∃ σ' H', Inv X pins σ' H' s' ∧ D.ct σ' H'
 | .ret u => ∃ v σ' H', Inv X pins σ' H' s' ∧ RelV v u ∧ D.rt v H'
def PE (X : Cx) (e : Expr) (t : TE) : Prop :=
 ∀ (pins : List (Addr × Obj)) (s : Shared) (σ : St) (H : Hp) (Q : VK), Inv X pins σ H s → t σ H Q → wpAny (model X.prog X.w) X.A (eval e X.env) (EP X pins σ Q) X.xe s
def PT (X : Cx) (e : Expr) (t : TT) : Prop :=
 ∀ (pins : List (Addr × Obj)) (s : Shared) (σ : St) (H : Hp) (Q : Bool → Hp → Prop), Inv X pins σ H s → t σ H Q → wpAny (model X.prog X.w) X.A (isTrue e X.env (eval e X.env)) (TP X pins σ Q) X.xe s
def PW (X : Cx) (e : Expr) (t : TT) : Prop :=
 ∀ (whole : Sem Value) (pins : List (Addr × Obj)) (s : Shared) (σ : St) (H : Hp) (Q : Bool → Hp → Prop), Inv X pins σ H s → t σ H Q → wpAny (model X.prog X.w) X.A (isTrue e X.env whole) (TP X pins σ Q) X.xe s
theorem PW.pt {X : Cx} {e : Expr} {t : TT} (h : PW X e t) : PT X e t := h _
def PA (X : Cx) (es : List Expr) (t : TA) : Prop :=
 ∀ (pos : Pos) (pins : List (Addr × Obj)) (s : Shared) (σ : St) (H : Hp) (Q : List V → Hp → Prop), Inv X pins σ H s → t σ H Q → wpAny (model X.prog X.w) X.A (spliced (backTo pos (starEach es X.env))) (AP X pins σ Q) X.xe s
def PS (X : Cx) (st : Stmt) (t : TS) : Prop :=
 ∀ (pins : List (Addr × Obj)) (s : Shared) (σ : St) (H : Hp) (D : Ends), Inv X pins σ H s → t D σ H → wpAny (model X.prog X.w) X.A (exec st X.env) (SP X pins D) X.xe s
def PSs (X : Cx) (st : List Stmt) (t : TS) : Prop :=
 ∀ (pins : List (Addr × Obj)) (s : Shared) (σ : St) (H : Hp) (D : Ends), Inv X pins σ H s → t D σ H → wpAny (model X.prog X.w) X.A (execs st X.env) (SP X pins D) X.xe s
theorem thn {α : Type} {t : Sem α} {Q Q' : α → Shared → Prop} {M : Model} {A : Around} {E : Value → Shared → Prop} {s : Shared} (h : wpAny M A t Q E s) (hQ : ∀ a s, Q a s → Q' a s) : wpAny M A t Q' E s := wpAny_mono h hQ fun _ _ x => x
end L2
namespace L2
open PySem PySem.Spec PyProof.Rows
section
variable {X : Cx}
theorem bin {a b : Expr} {ta tb : TE} (ha : PE X a ta) (hb : PE X b tb) {pins : List (Addr × Obj)} {s : Shared} {σ : St} {H : Hp} {R : V → V → Hp → Prop} (I : Inv X pins σ H s) (h : ta σ H fun x H1 => tb σ H1 fun y H2 => R x y H2)
  {α : Type} {Q : α → Shared → Prop} {f : Value → Value → Sem α}
  (hf : ∀ v u s2 x y H2, Inv X pins σ H2 s2 → RelV x v → RelV y u → R x y H2 → wpAny (model X.prog X.w) X.A (f v u) Q X.xe s2) :
  wpAny (model X.prog X.w) X.A (eval a X.env) (fun v s₁ => wpAny (model X.prog X.w) X.A (eval b X.env) (fun u s₂ => wpAny (model X.prog X.w) X.A (f v u) Q X.xe s₂) X.xe s₁) X.xe s := by
 refine thn (ha pins s σ H _ I h) fun v s1 ⟨x, H1, I1, r1, q1⟩ => ?_
 refine thn (hb pins s1 σ H1 _ I1 q1) fun u s2 ⟨y, H2, I2, r2, q2⟩ => ?_
 exact hf v u s2 x y H2 I2 r1 r2 q2
def tVar (i : Nat) : TE := fun σ H Q => ∃ v, σ[i]? = some (some v) ∧ Q v H
def tC (v : V) : TE := fun _ H Q => Q v H
theorem pe_var {i : Nat} {x : Str} {pos : Pos} (hN : X.N[i]? = some x) (hv : Vis X.env.scope x) (hd : (x == ("__debug__" : Str)) = false := by decide) (hcd : (x == ("__classdict__" : Str)) = false := by decide) : PE X (.Name x pos) (tVar i) := by
 intro pins s σ H Q I h
 obtain ⟨v, e, h⟩ := h
 obtain ⟨m, hn, hl⟩ := I.loc
 obtain ⟨u, r, l⟩ := hl i x v hN e hv
 have fin : EP X pins σ Q u s := ⟨v, H, I, r, h⟩
 rcases l with ⟨hk, hm⟩ | ⟨hk, c, hc, hcell⟩
 ·exact wpAny_Name (wpAny_loadName_local I.ok.kind hk hn hm fin) hd
 ·rcases hk with hk | hk
  ·exact wpAny_Name (wpAny_loadName_cell I.ok.kind hk hc hcell fin) hd
  ·exact wpAny_Name (wpAny_loadName_free I.ok.kind hk hc hcell fin hcd) hd
theorem pe_int {i j pos} : PE X (.Constant (.int i) j pos) (tC (.int i)) := fun _ _ _ H _ I h => wpAny_Constant_int ⟨.int i, H, I.tok _, ⟨_, rfl⟩, h⟩
theorem pe_bl {b j pos} : PE X (.Constant (.bool b) j pos) (tC (.bl b)) := fun _ _ _ H _ I h => Constant_bool ⟨.bl b, H, I, rfl, h⟩
theorem pe_non {j pos} : PE X (.Constant .none j pos) (tC .non) := fun _ _ _ H _ I h => Constant_none ⟨.non, H, I, rfl, h⟩
theorem pe_str {x j pos} : PE X (.Constant (.str x) j pos) (tC (.str x)) := fun _ _ _ H _ I h => Calls.Constant_str ⟨.str x, H, I.tok _, ⟨_, rfl⟩, h⟩
def Gl (X : Cx) (x : Str) : Prop := X.env.kindOf x = some .globalImplicit
theorem ld_glob {E : Value → Shared → Prop} {pins : List (Addr × Obj)} {s : Shared} {σ : St} {H : Hp} {x : Str} {u : Value} {pos : Pos} {Q : Value → Shared → Prop} (I : Inv X pins σ H s) (hg : Gl X x) (hm : X.mg x = some u) (h : Q u s)
  (hd : (x == ("__debug__" : Str)) = false := by decide) : wpAny (model X.prog X.w) X.A (eval (.Name x pos) X.env) Q E s :=
 Calls.Name_function_global I.ok.kind hg (Calls.loadGlobal_global (by rw [I.ok.glob]; exact I.mod.glob.keeps I.bk) hm h) hd
theorem ld_blt {E : Value → Shared → Prop} {pins : List (Addr × Obj)} {s : Shared} {σ : St} {H : Hp} {x : Str} {u : Value} {pos : Pos} {Q : Value → Shared → Prop} (I : Inv X pins σ H s) (hg : Gl X x) (hm : X.mg x = none) (hv : bootBuiltins x = some u) (h : Q u s)
  (hn : x ≠ "__name__" := by decide) (hd : (x == ("__debug__" : Str)) = false := by decide) : wpAny (model X.prog X.w) X.A (eval (.Name x pos) X.env) Q E s := by
 obtain ⟨mb, h1, h2⟩ := I.mod.blt
 exact Calls.Name_function_global I.ok.kind hg (Calls.loadGlobal_builtin (by rw [I.ok.glob]; exact I.mod.glob.keeps I.bk) hm (by rw [I.ok.blt]; exact h1.keeps I.bk) ((h2 x hn).trans hv) h) hd
theorem pe_glob {x : Str} {v : V} {u : Value} {pos : Pos} (hg : Gl X x) (hm : X.mg x = some u) (r : RelV v u) (hd : (x == ("__debug__" : Str)) = false := by decide) : PE X (.Name x pos) (tC v) :=
 fun _ _ _ H _ I h => ld_glob I hg hm ⟨v, H, I, r, h⟩ hd
theorem pe_bltn {x : Str} {v : V} {u : Value} {pos : Pos} (hg : Gl X x) (hm : X.mg x = none) (hv : bootBuiltins x = some u) (r : RelV v u) (hn : x ≠ "__name__" := by decide) (hd : (x == ("__debug__" : Str)) = false := by decide) : PE X (.Name x pos) (tC v) :=
 fun _ _ _ H _ I h => ld_blt I hg hm hv ⟨v, H, I, r, h⟩ hn hd
variable {a b : Expr} {ta tb : TE} {pos : Pos}
variable {tA tB' : TT} {rest : List Expr}
def tNot (t : TT) : TT := fun σ H Q => t σ H fun c H1 => Q (!c) H1
theorem pw_and1 (ha : PT X a tA) : PW X (.BoolOp .And [a] pos) tA := by
 intro wh pins s σ H Q I h
 refine isTrue_and (thn (ha pins s σ H Q I h) fun c s1 e => ?_)
 cases c with
 | true => exact isTrue_and_nil e
 | false => exact e
theorem pw_or1 (ha : PT X a tA) : PW X (.BoolOp .Or [a] pos) tA := by
 intro wh pins s σ H Q I h
 refine isTrue_or (thn (ha pins s σ H Q I h) fun c s1 e => ?_)
 cases c with
 | false => exact isTrue_or_nil e
 | true => exact e
theorem pt_not (ha : PT X a tA) : PT X (.UnaryOp .Not a pos) (tNot tA) := by
 intro pins s σ H Q I h
 exact isTrue_not (ha pins s σ H (fun c H1 => Q (!c) H1) I h)
theorem pe_one {op} {t : TE} (h : PE X a t) : PE X (.BoolOp op [a] pos) t := fun pins s σ H Q I hw => BoolOp_one (h pins s σ H Q I hw)
end
end L2
namespace L2
open PySem PySem.Spec PyProof.Rows
def SqL (K : PySem.W.Frag) (H : Hp) (a : Addr) (xs : List V) : Prop :=
 Rd H a (.lst xs) ∨
  ∃ (o : Obj) (its : Array Value) (n : Nat), K.lookup a = some o ∧ o.cls = .type "list" ∧ o.dict = none ∧ o.data = .seq its n ∧ its.size ≤ sizeLine ∧ Vals xs its.toList
def SqT (K : PySem.W.Frag) (H : Hp) (a : Addr) (xs : List V) : Prop :=
 Rd H a (.tup xs) ∨
  ∃ (o : Obj) (its : Array Value) (n : Nat), K.lookup a = some o ∧ o.cls = .type "tuple" ∧ o.data = .seq its n ∧ its.size ≤ sizeLine ∧ Vals xs its.toList
def absV : Value → Option V
 | .none => some .non
 | .bool b => some (.bl b)
 | .int i _ => some (.int i)
 | .str x _ => some (.str x)
 | .bytes b _ => some (.byt b)
 | .float b _ => some (.flt b)
 | .ref a => some (.ref a)
 | .type n => some (.ty n)
 | _ => none
theorem RelV.abs {x : V} {u : Value} (r : RelV x u) : absV u = some x := by
 cases x with
 | non => cases r; rfl
 | bl _ => cases r; rfl
 | int _ => obtain ⟨t, rfl⟩ := r; rfl
 | str _ => obtain ⟨t, rfl⟩ := r; rfl
 | byt _ => obtain ⟨t, rfl⟩ := r; rfl
 | flt _ => obtain ⟨t, rfl⟩ := r; rfl
 | ref _ => cases r; rfl
 | ty _ => cases r; rfl
theorem RelV.inj {x y : V} {u : Value} (r : RelV x u) (q : RelV y u) : x = y := Option.some.inj (r.abs.symm.trans q.abs)
theorem Vals.inj : ∀ {xs ys : List V} {us : List Value}, Vals xs us → Vals ys us → xs = ys
 | _, _, _, .nil, .nil => rfl
 | _, _, _, .cons r t, .cons r' t' => by rw [r.inj r', Vals.inj t t']
section
variable {X : Cx} {pins : List (Addr × Obj)} {σ : St} {H : Hp} {s : Shared} {a : Addr} {xs ys : List V}
theorem SqL.of {K : PySem.W.Frag} (h : H a = some (.lst xs)) : SqL K H a xs := .inl (.inl h)
theorem SqT.of {K : PySem.W.Frag} (h : H a = some (.tup xs)) : SqT K H a xs := .inl (.inl h)
theorem Inv.list (I : Inv X pins σ H s) (h : SqL X.K H a xs) : ∃ its : List Value, Vals xs its ∧ PlainL s.heap a its.toArray ∧ xs.length ≤ sizeLine := by
 rcases h with h | ⟨o, its, n, hk, hc, hd, hs, hz, r⟩
 ·obtain ⟨z, its, n, r, e⟩ := h.ok I.hok
  exact ⟨its, r, ⟨_, n, e, rfl, rfl, rfl⟩, z⟩
 ·refine ⟨its.toList, r, ⟨o, n, I.kIn a o hk, hc, hd, by simpa using hs⟩, ?_⟩
  have e := r.length
  simp only [Array.length_toList] at e
  omega
theorem Inv.tuple (I : Inv X pins σ H s) (h : SqT X.K H a xs) : ∃ its : List Value, Vals xs its ∧ IsTup s.heap a its.toArray ∧ xs.length ≤ sizeLine := by
 rcases h with h | ⟨o, its, n, hk, hc, hs, hz, r⟩
 ·obtain ⟨z, its, r, p⟩ := h.ok I.hok
  exact ⟨its, r, p, z⟩
 ·refine ⟨its.toList, r, ⟨o, I.kIn a o hk, hc, n, by simpa using hs⟩, ?_⟩
  have e := r.length
  simp only [Array.length_toList] at e
  omega
theorem Inv.list_inj (I : Inv X pins σ H s) (h : SqL X.K H a xs) (h' : SqL X.K H a ys) : xs = ys := by
 obtain ⟨its, r, ⟨o, n, e, _, _, d⟩, _⟩ := I.list h
 obtain ⟨its', r', ⟨o', n', e', _, _, d'⟩, _⟩ := I.list h'
 rw [e] at e'; cases e'
 rw [d] at d'
 injection d' with d1 _
 have : its = its' := by simpa using congrArg Array.toList d1
 subst this
 exact r.inj r'
theorem Inv.tuple_inj (I : Inv X pins σ H s) (h : SqT X.K H a xs) (h' : SqT X.K H a ys) : xs = ys := by
 obtain ⟨its, r, ⟨o, e, _, n, d⟩, _⟩ := I.tuple h
 obtain ⟨its', r', ⟨o', e', _, n', d'⟩, _⟩ := I.tuple h'
 rw [e] at e'; cases e'
 rw [d] at d'
 injection d' with d1 _
 have : its = its' := by simpa using congrArg Array.toList d1
 subst this
 exact r.inj r'
end
abbrev Cx.wish (X : Cx) (E : Value → Shared → Prop) : Cx := { X with xe := E }
abbrev Cx.nox (X : Cx) : Cx := X.wish fun _ _ => False
theorem Cx.Ok.wish {X : Cx} (ok : X.Ok) (E : Value → Shared → Prop) : (X.wish E).Ok :=
 ⟨ok.mod, ok.kind, ok.glob, ok.blt, ok.above, ok.inj, ok.has, ok.cab, ok.hd, ok.frames, ok.stk, ok.exf, ok.bs, ok.bsz, ok.noex, ok.exfs, ok.funs, ok.frf⟩
theorem Cx.Ok.unwish {X : Cx} {E : Value → Shared → Prop} (ok : (X.wish E).Ok) : X.Ok :=
 ⟨ok.mod, ok.kind, ok.glob, ok.blt, ok.above, ok.inj, ok.has, ok.cab, ok.hd, ok.frames, ok.stk, ok.exf, ok.bs, ok.bsz, ok.noex, ok.exfs, ok.funs, ok.frf⟩
section
variable {X : Cx} {pins : List (Addr × Obj)} {σ : St} {H : Hp} {s : Shared} {E : Value → Shared → Prop}
theorem Inv.wish (I : Inv X pins σ H s) (E : Value → Shared → Prop) : Inv (X.wish E) pins σ H s := ⟨I.ok.wish E, I.os, I.bare, I.base, I.loc, I.cell, I.free, I.freeC, I.pin, I.hok, I.len⟩
theorem Inv.unwish (I : Inv (X.wish E) pins σ H s) : Inv X pins σ H s := ⟨I.ok.unwish, I.os, I.bare, I.base, I.loc, I.cell, I.free, I.freeC, I.pin, I.hok, I.len⟩
theorem SP.unwish {D : Ends} {f : Flow} {s' : Shared} (h : SP (X.wish E) pins D f s') : SP X pins D f s' := by
 cases f with
 | next => obtain ⟨σ', H', I, q⟩ := h; exact ⟨σ', H', I.unwish, q⟩
 | brk => obtain ⟨σ', H', I, q⟩ := h; exact ⟨σ', H', I.unwish, q⟩
 | cont => obtain ⟨σ', H', I, q⟩ := h; exact ⟨σ', H', I.unwish, q⟩
 | ret u => obtain ⟨v, σ', H', I, r, q⟩ := h; exact ⟨v, σ', H', I.unwish, r, q⟩
theorem PSs.nox {st : List Stmt} {t : TS} (h : PSs X.nox st t) : PSs X st t := fun pins s σ H D I hw =>
 wpAny_mono (h pins s σ H D (I.wish _) hw) (fun _ _ q => q.unwish) fun _ _ z => False.elim z
end
section
variable {X : Cx} {st : Stmt} {rest : List Stmt} {t u : TS} {e : Expr} {te : TE} {pos : Pos}
def tNext : TS := fun D σ H => D.nx σ H
def tSeq (t u : TS) : TS := fun D σ H => t { D with nx := u D } σ H
theorem pss_nil : PSs X [] tNext := fun _ _ σ H _ I h => wpAny_execs_nil ⟨σ, H, I, h⟩
theorem pss_cons (h1 : PS X st t) (h2 : PSs X rest u) : PSs X (st :: rest) (tSeq t u) := by
 intro pins s σ H D I h
 refine wpAny_execs_cons (thn (h1 pins s σ H { D with nx := u D } I h) fun f s1 q => ?_)
 cases f with
 | next =>
  obtain ⟨σ', H', I', q⟩ := q
  exact h2 pins s1 σ' H' D I' q
 | ret v => exact q
 | brk => exact q
 | cont => exact q
theorem pss_one (h1 : PS X st t) : PSs X [st] t := by
 intro pins s σ H D I h
 refine wpAny_execs_cons (thn (h1 pins s σ H D I h) fun f s1 q => ?_)
 cases f with
 | next => exact wpAny_execs_nil q
 | ret v => exact q
 | brk => exact q
 | cont => exact q
theorem Inv.quiet {pins : List (Addr × Obj)} {σ : St} {H : Hp} {s : Shared} (I : Inv X pins σ H s) : interactive X.env = false := by simp [interactive, I.ok.kind]
def tDrop (te : TE) : TS := fun D σ H => te σ H fun _ H1 => D.nx σ H1
theorem ps_expr (he : PE X e te) (hs : swapsWith e none pos.line X.env = pure false := by rfl) : PS X (.Expr e pos) (tDrop te) := by
 intro pins s σ H D I h
 exact wpAny_Expr_any (thn (he pins s σ H _ I h) fun v s1 ⟨x, H1, I1, r1, q1⟩ => ⟨σ, H1, I1, q1⟩) I.quiet hs
def tRet (te : TE) : TS := fun D σ H => te σ H D.rt
theorem ps_ret (he : PE X e te) : PS X (.Return (some e) pos) (tRet te) := by
 intro pins s σ H D I h
 exact wpAny_Return_some (thn (he pins s σ H _ I h) fun v s1 ⟨x, H1, I1, r1, q1⟩ => ⟨x, σ, H1, I1, r1, q1⟩)
end
abbrev TG := V → St → Hp → (St → Hp → Prop) → Prop
abbrev TGs := List V → St → Hp → (St → Hp → Prop) → Prop
def PG (X : Cx) (target : Expr) (t : TG) : Prop :=
 ∀ (pins : List (Addr × Obj)) (s : Shared) (σ : St) (H : Hp) (v : V) (u : Value) (Q : St → Hp → Prop), Inv X pins σ H s → RelV v u → t v σ H Q →
  wpAny (model X.prog X.w) X.A (assign target X.env u) (fun _ s' => ∃ σ' H', Inv X pins σ' H' s' ∧ Q σ' H') X.xe s
def PGs (X : Cx) (ts : List Expr) (t : TGs) : Prop :=
 ∀ (pins : List (Addr × Obj)) (s : Shared) (σ : St) (H : Hp) (vs : List V) (us : List Value) (Q : St → Hp → Prop), Inv X pins σ H s → Vals vs us → t vs σ H Q →
  wpAny (model X.prog X.w) X.A (assignInOrder ((assignEach ts X.env).map (·.2)) us) (fun _ s' => ∃ σ' H', Inv X pins σ' H' s' ∧ Q σ' H') X.xe s
abbrev TSet := V → V → V → Hp → (Hp → Prop) → Prop
def PSet (X : Cx) (t : TSet) : Prop :=
 ∀ (pins : List (Addr × Obj)) (s : Shared) (σ : St) (H : Hp) (o i v : V) (ov iv u : Value) (Q : Hp → Prop), Inv X pins σ H s → RelV o ov → RelV i iv → RelV v u → t o i v H Q →
  wpAny (model X.prog X.w) X.A (setItem ov iv u) (fun _ s' => ∃ H', Inv X pins σ H' s' ∧ Q H') X.xe s
section
variable {X : Cx} {pos : Pos}
def gName (i : Nat) : TG := fun v σ H Q => Q (σ.set i (some v)) H
theorem pg_name {i : Nat} {x : Str} (hN : X.N.Nodup) (hi : X.N[i]? = some x) (hx : Loc X.env.scope x) (hf : X.fn x = true ∨ X.env.scope.names.lookup x = some .local := by first | exact .inl rfl | exact .inr rfl | assumption) : PG X (.Name x pos) (gName i) := by
 intro pins s σ H v u Q I r h
 exact wpAny_assign_Name (store_ok I hN hi hx r (fun s' I' => ⟨_, H, I', h⟩) hf)
def gNil : TGs := fun vs σ H Q => vs = [] ∧ Q σ H
def gCons (t : TG) (u : TGs) : TGs := fun vs σ H Q => ∃ v r, vs = v :: r ∧ t v σ H fun σ' H' => u r σ' H' Q
theorem pgs_nil : PGs X [] gNil := by
 intro pins s σ H vs us Q I r h
 obtain ⟨e, h⟩ := h
 subst e
 cases r
 exact assignInOrder_nil ⟨σ, H, I, h⟩
theorem pgs_cons {e : Expr} {es : List Expr} {t : TG} {u : TGs} (h1 : PG X e t) (h2 : PGs X es u)
  (hs : (assignEach (e :: es) X.env).map (·.2) = assign e X.env :: (assignEach es X.env).map (·.2) := by rfl) : PGs X (e :: es) (gCons t u) := by
 intro pins s σ H vs us Q I r h
 obtain ⟨v, vr, e1, h⟩ := h
 subst e1
 cases r with
 | cons r rr =>
  rw [hs]
  refine assignInOrder_cons (thn (h1 pins s σ H _ _ _ I r h) fun _ s1 ⟨σ1, H1, I1, q1⟩ => ?_)
  exact h2 pins s1 σ1 H1 _ _ Q I1 rr q1
def gTup (K : PySem.W.Frag) (n : Nat) (t : TGs) : TG := fun v σ H Q => ∃ a xs, v = .ref a ∧ SqT K H a xs ∧ xs.length = n ∧ t xs σ H Q
theorem pg_tup {es : List Expr} {k : Nat} {t : TGs} {n : Nat} (hc : X.calm = true) (h : PGs X es t)
  (hn : (assignEach es X.env).length = n := by rfl) (hst : (assignEach es X.env).findIdx? (·.1) = none := by rfl) : PG X (.Tuple es k pos) (gTup X.K n t) := by
 intro pins s σ H v u Q I r hw
 obtain ⟨a, xs, e1, hq, hl, hw⟩ := hw
 subst e1
 cases r
 obtain ⟨its, rv, ht, hz⟩ := I.tuple hq
 refine assign_Tuple_tuple (I.ok.hd hc) ht (by simp [hn, ← hl, rv.length]) hst fun h' hx => ?_
 have I1 : Inv X pins σ H { s with heap := h' } := I.kept (t' := s.toks) fun b o e => hx b o (Nat.ne_of_lt (Heap.lt_size e)) e
 exact h pins _ σ H xs _ Q I1 (by simpa using rv) hw
def gSub (to ti : TE) (t : TSet) : TG := fun v σ H Q => to σ H fun o H1 => ti σ H1 fun i H2 => t o i v H2 fun H3 => Q σ H3
theorem pg_sub {o i : Expr} {to ti : TE} {t : TSet} (ho : PE X o to) (hi : PE X i ti) (hs : PSet X t)
  (ha : ∀ v, assign (.Subscript o i pos) X.env v = (do
   let ov ← holding [v] (eval o X.env)
   let iv ← holding [v, ov] (eval i X.env)
   standAt pos
   holding [v, ov, iv] (setItem ov iv v)
   release [v, ov, iv] []) := by intro _; rfl) : PG X (.Subscript o i pos) (gSub to ti t) := by
 intro pins s σ H v u Q I r h
 rw [ha]
 refine wpAny_bind (wpAny_holding (thn (ho pins s σ H _ I h) fun ov s1 ⟨x, H1, I1, r1, q1⟩ => ?_))
 refine wpAny_bind (wpAny_holding (thn (hi pins s1 σ H1 _ I1 q1) fun iv s2 ⟨y, H2, I2, r2, q2⟩ => ?_))
 refine wpAny_bind (wpAny_standAt (wpAny_bind (wpAny_holding (thn (hs pins s2 σ H2 x y v ov iv u _ I2 r1 r2 r q2) fun _ s3 ⟨H3, I3, q3⟩ => ?_))))
 exact wpAny_release ⟨σ, H3, I3, q3⟩
def tAsg (te : TE) (g : TG) : TS := fun D σ H => te σ H fun x H1 => g x σ H1 D.nx
theorem ps_asg {tg e : Expr} {te : TE} {g : TG} (he : PE X e te) (hg : PG X tg g) (hs : swapsWithSole [tg] e pos.line X.env = pure false := by rfl) (hw : swappedStores [tg] e X.env = pure none := by rfl)
  (h1 : (assignEach [tg] X.env).map (·.2) = [assign tg X.env] := by rfl) : PS X (.Assign [tg] e pos) (tAsg te g) := by
 intro pins s σ H D I h
 refine wpAny_Assign_stores (thn (he pins s σ H _ I h) fun v s1 ⟨x, H1, I1, r1, q1⟩ => ?_) hs hw
 rw [h1]
 exact thn (hg pins s1 σ H1 x v _ I1 r1 q1) fun _ s2 q => q
theorem ps_set {i : Nat} {x : Str} {e : Expr} {te : TE} {pos' : Pos} (hN : X.N.Nodup) (hi : X.N[i]? = some x) (hx : Loc X.env.scope x) (he : PE X e te) (hs : swapsWith e (some (.Name x pos')) pos.line X.env = pure false := by rfl) (hf : X.fn x = true ∨ X.env.scope.names.lookup x = some .local := by first | exact .inl rfl | exact .inr rfl | assumption) :
  PS X (.Assign [.Name x pos'] e pos) (tAsg te (gName i)) := by
 intro pins s σ H D I h
 refine wpAny_Assign_Name (thn (he pins s σ H _ I h) fun v s1 ⟨y, H1, I1, r1, q1⟩ => ?_) hs
 exact store_ok I1 hN hi hx r1 (fun s2 I2 => ⟨_, H1, I2, q1⟩) hf
def tPar (i j : Nat) (ta : TA) : TS := fun D σ H => ta σ H fun vs H1 => ∃ v w, vs = [v, w] ∧ D.nx ((σ.set i (some v)).set j (some w)) H1
theorem ps_par {i j : Nat} {x y : Str} {a b : Expr} {ta : TA} {px py pt : Pos} {kt k2 pt2} (hc : X.calm = true) (hN : X.N.Nodup) (hi : X.N[i]? = some x) (hj : X.N[j]? = some y) (hij : i ≠ j)
  (hx : X.env.scope.names.lookup x = some .local) (hy : X.env.scope.names.lookup y = some .local) (ha : PA X [a, b] ta)
  (hw : swappedStores [.Tuple [.Name x px, .Name y py] kt pt] (.Tuple [a, b] k2 pt2) X.env = pure (some [x, y]))
  (hs : swapsWithSole [.Tuple [.Name x px, .Name y py] kt pt] (.Tuple [a, b] k2 pt2) pos.line X.env = pure false := by rfl) :
  PS X (.Assign [.Tuple [.Name x px, .Name y py] kt pt] (.Tuple [a, b] k2 pt2) pos) (tPar i j ta) := by
 intro pins s σ H D I h
 rw [exec_Assign_arm]
 refine wpAny_bind (wpAny_standAt ?_)
 rw [hs]
 refine wpAny_bind (wpAny_pure ?_)
 rw [if_neg (by decide)]
 refine wpAny_bind (Tuple_ (thn (ha _ pins s σ H _ I h) fun us s1 ⟨vs, H1, I1, r1, q1⟩ => ?_))
 obtain ⟨v, w, e1, q1⟩ := q1
 subst e1
 obtain ⟨u1, u2, rfl, rv, rw'⟩ : ∃ u1 u2, us = [u1, u2] ∧ RelV v u1 ∧ RelV w u2 := by
  cases r1 with
  | cons p q =>
   cases q with
   | cons p' q' =>
    cases q'
    exact ⟨_, _, rfl, p, p'⟩
 refine wpAny_newObj_type ?_ (by show 2 ≤ sizeLine; decide)
 have I2 : Inv X pins σ H1 { s1 with heap := s1.heap.push { cls := .type "tuple", data := .seq [u1, u2].toArray } } := I1.kept (t' := s1.toks) fun b o e => Heap.get?_push_of_some _ e
 rw [hw]
 refine wpAny_bind (wpAny_pure ?_)
 show wpAny (model X.prog X.w) X.A (do rule "assign.swapped-stores"; let items ← unpackItems (.ref s1.heap.objs.size) 2 none; assignInOrder [fun v => bindName X.env y v, fun v => bindName X.env x v] items.reverse; pure Flow.next) _ _ _
 refine wpAny_bind (wpAny_rule (wpAny_bind (unpackItems_tuple (items := #[u1, u2]) (I.ok.hd hc) (IsTup.new s1.heap _) fun h' hx' => ?_)))
 have I3 := I2.kept (h' := h') (t' := s1.toks) fun b o e => hx' b o (Nat.ne_of_lt (Heap.lt_size e)) e
 show wpAny _ _ (assignInOrder [fun v => bindName X.env y v, fun v => bindName X.env x v] [u2, u1] >>= fun _ => pure Flow.next) _ _ _
 refine wpAny_bind (assignInOrder_cons (wpAny_bindName (store_ok I3 hN hj (.inl hy) rw' (fun s2 I4 => ?_) (.inr hy))))
 refine assignInOrder_cons (wpAny_bindName (store_ok I4 hN hi (.inl hx) rv (fun s3 I5 => assignInOrder_nil (wpAny_pure ?_)) (.inr hx)))
 rw [List.set_comm _ _ (Ne.symm hij)] at I5
 exact ⟨_, H1, I5, q1⟩
end
section
variable {X : Cx} {pos : Pos}
end
structure It where
 go : Nat → Hp → Prop
 yld : Nat → Hp → V → Hp → Prop
 stop : Nat → Hp → Prop
def FpOk (X : Cx) (pins : List (Addr × Obj)) (H : Hp) (b : Addr) : Prop :=
 H b = none ∧ b ≠ X.env.locals ∧ b ∉ X.fs ∧ (b ∈ X.ex ∨ X.s₀.heap.objs.size ≤ b) ∧ (∀ x c, X.env.cells.lookup x = some c → c ≠ b) ∧ ∀ p ∈ X.pn ++ pins, p.1 ≠ b
theorem Inv.fpOk {X : Cx} {pins : List (Addr × Obj)} {σ : St} {H H' : Hp} {s : Shared} {b : Addr} (I : Inv X pins σ H s) (hb : s.heap.objs.size ≤ b) (hn : H' b = none) : FpOk X pins H' b := by
 refine ⟨hn, Nat.ne_of_gt (Nat.lt_of_lt_of_le I.lt hb), I.nofs hb, .inr (Nat.le_trans I.sz hb), fun x c e z => ?_, fun p hp z => ?_⟩
 ·obtain ⟨v, q⟩ := I.cell x c e
  exact absurd (Nat.lt_of_lt_of_le q.lt (by rw [z]; exact hb)) (Nat.lt_irrefl _)
 ·exact absurd (Nat.lt_of_lt_of_le (Heap.lt_size (I.pin p hp).1) (by rw [z]; exact hb)) (Nat.lt_irrefl _)
structure Turn (P : Program) (w : World) (K : PySem.W.Frag) (tg : Expr) (J : It) (fp : List Addr) (it : Addr) (tn : Nat → Heap → Prop) : Prop where
 mem : it ∈ fp
 obj : ∀ i h, tn i h → ∀ b ∈ fp, ∃ o, h.get? b = some o ∧ ∀ v, o.data ≠ .cell v
 keep : ∀ i h h', tn i h → (∀ b ∈ fp, ∀ o, h.get? b = some o → h'.get? b = some o) → tn i h'
 item : ∀ (X : Cx), X.prog = P → X.w = w → X.K = K → X.calm = true → ∀ (i : Nat) (pins : List (Addr × Obj)) (s : Shared) (σ : St) (H : Hp) (E : Value → Shared → Prop), Inv X pins σ H s → (∀ b ∈ fp, FpOk X pins H b) → tn i s.heap → J.go i H →
  wpAny (model P w) X.A (pyNext (.ref it)) (fun r s1 => ∃ u, r = some u ∧
   wpAny (model P w) X.A (letOwnedTupleGo tg (.ref it) u) (fun _ s2 => ∃ x H', Inv X pins σ H' s2 ∧ RelV x u ∧ J.yld i H x H' ∧ tn (i + 1) s2.heap ∧ ∀ b ∈ fp, H' b = none) E s1) E s
 done : ∀ (X : Cx), X.prog = P → X.w = w → X.K = K → X.calm = true → ∀ (i : Nat) (pins : List (Addr × Obj)) (s : Shared) (σ : St) (H : Hp) (E : Value → Shared → Prop), Inv X pins σ H s → (∀ b ∈ fp, FpOk X pins H b) → tn i s.heap → J.stop i H →
  wpAny (model P w) X.A (pyNext (.ref it)) (fun r s1 => r = none ∧ Inv X pins σ H s1) E s
 self : ∀ (A : Around) (i : Nat) (s : Shared) (Q : Value → Shared → Prop) (E : Value → Shared → Prop), tn i s.heap → Q (.ref it) s → wpAny (model P w) A (pyIter (.ref it)) Q E s
abbrev TI := St → Hp → (It → Hp → Prop) → Prop
def PIE (X : Cx) (pins : List (Addr × Obj)) (σ : St) (tg : Expr) (R : It → Hp → Prop) (itv : Value) (s2 : Shared) : Prop :=
 ∃ (it : Addr) (fp : List Addr) (tn : Nat → Heap → Prop) (J : It) (H' : Hp), itv = .ref it ∧ Inv X pins σ H' s2 ∧ Turn X.prog X.w X.K tg J fp it tn ∧ tn 0 s2.heap ∧ (∀ b ∈ fp, FpOk X pins H' b) ∧ R J H'
def PI (X : Cx) (tg iter : Expr) (wi : TI) : Prop :=
 ∀ (pins : List (Addr × Obj)) (s : Shared) (σ : St) (H : Hp) (R : It → Hp → Prop), Inv X pins σ H s → wi σ H R →
  wpAny (model X.prog X.w) X.A (eval iter X.env) (fun v s1 => wpAny (model X.prog X.w) X.A (pyIter v) (PIE X pins σ tg R) X.xe s1) X.xe s
theorem go_of {M : Model} {A : Around} {E : Value → Shared → Prop} {s : Shared} {tg : Expr} {it : Addr} {u : Value} {o : Obj} {n : String} {vs : Array Value} {Q : Unit → Shared → Prop} (ho : s.heap.get? it = some o) (hc : o.cls = .type n) (hd : o.data = .fields vs)
    (hn : ["enumerate", "zip", "dict_itemiterator", "dict_reverseitemiterator", "odict_iterator", "itertools.zip_longest", "itertools.pairwise"].contains n = false) (hQ : Q () s) : wpAny M A (letOwnedTupleGo tg (.ref it) u) Q E s := by
  unfold letOwnedTupleGo
  cases tg <;> first
    | exact wpAny_pure hQ
    | (cases u <;> first
        | exact wpAny_pure hQ
        | (refine wpAny_bind (wpAny_load ho ?_)
           rw [hc, hd]
           show wpAny M A (if (["enumerate", "zip", "dict_itemiterator", "dict_reverseitemiterator", "odict_iterator", "itertools.zip_longest", "itertools.pairwise"].contains n && vs[0]? == some (rawInt _)) = true then _ else _) Q E s
           rw [if_neg (by intro h; rw [hn, Bool.false_and] at h; cases h)]
           exact wpAny_pure hQ))
def Itl (K : PySem.W.Frag) (a : Addr) : It :=
 ⟨fun i H => ∃ xs x, SqL K H a xs ∧ xs[i]? = some x, fun i H x H' => H' = H ∧ ∀ xs, SqL K H a xs → xs[i]? = some x, fun i H => ∃ xs, SqL K H a xs ∧ xs.length ≤ i⟩
def Itt (K : PySem.W.Frag) (a : Addr) : It :=
 ⟨fun i H => ∃ xs x, SqT K H a xs ∧ xs[i]? = some x, fun i H x H' => H' = H ∧ ∀ xs, SqT K H a xs → xs[i]? = some x, fun i H => ∃ xs, SqT K H a xs ∧ xs.length ≤ i⟩
def Itr (lo : Int) (n : Nat) : It := ⟨fun i _ => i < n, fun i H x H' => H' = H ∧ x = .int (lo + i), fun i _ => n ≤ i⟩
theorem turn_list {P : Program} {w : World} {K : PySem.W.Frag} {tg : Expr} (a it : Addr) : Turn P w K tg (Itl K a) [it] it (fun i h => h.IsListIter it a i) where
 mem := by simp
 obj := fun i h st b hb => by
  have e : b = it := by simpa using hb
  subst e
  obtain ⟨o, e, c, d⟩ := st
  exact ⟨o, e, fun v z => by rw [d] at z; cases z⟩
 keep := fun i h h' st k => st.at fun o e => k it (by simp) o e
 item := by
  intro X hP hw hK hc i pins s σ H E I hf st hg
  subst hP hw hK
  obtain ⟨xs, x, hq, hx⟩ := hg
  obtain ⟨its, rv, p, hz⟩ := I.list hq
  obtain ⟨u, hu, ru⟩ := rv.get hx
  obtain ⟨f0, f1, f2, f3, f4, f5⟩ := hf it (by simp)
  refine wpAny_pyNext_list_item st p.isList (x := u) (by simpa using hu) fun h' st' sb => ?_
  have I1 : Inv X pins σ H { s with heap := h' } := I.turned (t' := s.toks) (fun b o hb e => (sb.2 b hb).trans e) f0 f1 f3 f4 f5
  obtain ⟨o, e, c, d⟩ := id st'
  exact ⟨u, rfl, go_of (s := { s with heap := h' }) e c d (by decide) ⟨x, H, I1, ru, ⟨rfl, fun ys hy => by rw [I.list_inj hy hq]; exact hx⟩, st', fun b hb => (hf b hb).1⟩⟩
 done := by
  intro X hP hw hK hc i pins s σ H E I hf st hg
  subst hP hw hK
  obtain ⟨xs, hq, hx⟩ := hg
  obtain ⟨its, rv, p, hz⟩ := I.list hq
  obtain ⟨f0, f1, f2, f3, f4, f5⟩ := hf it (by simp)
  have hl := rv.length
  exact wpAny_pyNext_list_end (I.ok.hd hc) st p.isList (by simp; omega) fun h' eb => ⟨rfl, I.turned (t' := s.toks) (fun b o hb e => eb b o hb e) f0 f1 f3 f4 f5⟩
 self := fun _ _ _ _ _ st h => wpAny_pyIter_listiter st h
theorem turn_tuple {P : Program} {w : World} {K : PySem.W.Frag} {tg : Expr} (a it : Addr) : Turn P w K tg (Itt K a) [it] it (fun i h => h.IsTupleIter it a i) where
 mem := by simp
 obj := fun i h st b hb => by
  have e : b = it := by simpa using hb
  subst e
  obtain ⟨o, e, c, d⟩ := st
  exact ⟨o, e, fun v z => by rw [d] at z; cases z⟩
 keep := fun i h h' st k => st.at fun o e => k it (by simp) o e
 item := by
  intro X hP hw hK hc i pins s σ H E I hf st hg
  subst hP hw hK
  obtain ⟨xs, x, hq, hx⟩ := hg
  obtain ⟨its, rv, p, hz⟩ := I.tuple hq
  obtain ⟨u, hu, ru⟩ := rv.get hx
  obtain ⟨f0, f1, f2, f3, f4, f5⟩ := hf it (by simp)
  refine wpAny_pyNext_tuple_item st (show s.heap.IsTuple a its.toArray from p) (x := u) (by simpa using hu) fun h' st' sb => ?_
  have I1 : Inv X pins σ H { s with heap := h' } := I.turned (t' := s.toks) (fun b o hb e => (sb.2 b hb).trans e) f0 f1 f3 f4 f5
  obtain ⟨o, e, c, d⟩ := id st'
  exact ⟨u, rfl, go_of (s := { s with heap := h' }) e c d (by decide) ⟨x, H, I1, ru, ⟨rfl, fun ys hy => by rw [I.tuple_inj hy hq]; exact hx⟩, st', fun b hb => (hf b hb).1⟩⟩
 done := by
  intro X hP hw hK hc i pins s σ H E I hf st hg
  subst hP hw hK
  obtain ⟨xs, hq, hx⟩ := hg
  obtain ⟨its, rv, p, hz⟩ := I.tuple hq
  obtain ⟨f0, f1, f2, f3, f4, f5⟩ := hf it (by simp)
  have hl := rv.length
  exact wpAny_pyNext_tuple_end (I.ok.hd hc) st (show s.heap.IsTuple a its.toArray from p) (by simp; omega) fun h' eb => ⟨rfl, I.turned (t' := s.toks) (fun b o hb e => eb b o hb e) f0 f1 f3 f4 f5⟩
 self := fun _ _ _ _ _ st h => wpAny_pyIter_tupleiter st h
theorem turn_range {P : Program} {w : World} {K : PySem.W.Frag} {tg : Expr} (it : Addr) (lo : Int) (n : Nat) : Turn P w K tg (Itr lo n) [it] it (fun i h => IsRangeIter h it (lo + (i : Nat) * 1) ((n : Int) - (i : Nat)) 1) where
 mem := by simp
 obj := fun i h st b hb => by
  have e : b = it := by simpa using hb
  subst e
  exact ⟨_, st, fun v z => by
   have z' : Data.fields _ = Data.cell v := z
   cases z'⟩
 keep := fun i h h' st k => k it (by simp) _ st
 item := by
  intro X hP hw hK hc i pins s σ H E I hf st hg
  subst hP hw hK
  obtain ⟨f0, f1, f2, f3, f4, f5⟩ := hf it (by simp)
  have W := Walks.range (prog := X.prog) (w := X.w) (I.ok.hd hc) it lo 1 n
  refine W.item i s _ _ hg st fun v h' tk hv st' kk => ?_
  obtain ⟨t, rfl⟩ := hv
  have I1 : Inv X pins σ H { s with heap := h', toks := tk } := I.turned (fun b o hb e => kk b o (by simpa using hb) e) f0 f1 f3 f4 f5
  refine ⟨_, rfl, go_of (s := { s with heap := h', toks := tk }) (n := "range_iterator") st' rfl rfl (by decide) ⟨.int (lo + i), H, I1, ⟨t, ?_⟩, ⟨rfl, rfl⟩, st', fun b hb => (hf b hb).1⟩⟩
  rw [Int.mul_one]
 done := by
  intro X hP hw hK hc i pins s σ H E I hf st hg
  subst hP hw hK
  obtain ⟨f0, f1, f2, f3, f4, f5⟩ := hf it (by simp)
  exact wpAny_pyNext_range_end (I.ok.hd hc) st (by have : n ≤ i := hg; omega) fun h' eb => ⟨rfl, I.turned (t' := s.toks) (fun b o hb e => eb b o hb e) f0 f1 f3 f4 f5⟩
 self := fun _ _ _ _ _ st h => wpAny_pyIter_rangeiter st h
end L2
namespace L2
open PySem PySem.Spec PyProof.Rows
section
variable {X : Cx} {tg : Expr}
def iList (K : PySem.W.Frag) (tl : TE) : TI := fun σ H R => tl σ H fun x H1 => ∃ a, x = .ref a ∧ (∃ xs, SqL K H1 a xs) ∧ R (Itl K a) H1
def iTup (K : PySem.W.Frag) (tl : TE) : TI := fun σ H R => tl σ H fun x H1 => ∃ a, x = .ref a ∧ (∃ xs, SqT K H1 a xs) ∧ R (Itt K a) H1
theorem pi_list {l : Expr} {tl : TE} (hl : PE X l tl) : PI X tg l (iList X.K tl) := by
 intro pins s σ H R I h
 refine thn (hl pins s σ H _ I h) fun v s1 ⟨x, H1, I1, r1, q1⟩ => ?_
 obtain ⟨a, e, ⟨xs, hq⟩, q⟩ := q1
 subst e
 cases r1
 obtain ⟨its, rv, p, hz⟩ := I1.list hq
 refine wpAny_pyIter_list p.isList ?_
 refine ⟨s1.heap.objs.size, [s1.heap.objs.size], _, _, H1, rfl, I1.kept (t' := s1.toks) fun b o e => Heap.get?_push_of_some _ e, turn_list a _, ⟨_, Heap.get?_push_size _ rfl, rfl, rfl⟩, fun b hb => ?_, q⟩
 have e : b = s1.heap.objs.size := by simpa using hb
 subst e
 exact I1.fpOk (Nat.le_refl _) (I1.hok.fresh (Nat.le_refl _))
theorem pi_tup {l : Expr} {tl : TE} (hl : PE X l tl) : PI X tg l (iTup X.K tl) := by
 intro pins s σ H R I h
 refine thn (hl pins s σ H _ I h) fun v s1 ⟨x, H1, I1, r1, q1⟩ => ?_
 obtain ⟨a, e, ⟨xs, hq⟩, q⟩ := q1
 subst e
 cases r1
 obtain ⟨its, rv, p, hz⟩ := I1.tuple hq
 refine wpAny_pyIter_tuple (show s1.heap.IsTuple a its.toArray from p) ?_
 refine ⟨s1.heap.objs.size, [s1.heap.objs.size], _, _, H1, rfl, I1.kept (t' := s1.toks) fun b o e => Heap.get?_push_of_some _ e, turn_tuple a _, ⟨_, Heap.get?_push_size _ rfl, rfl, rfl⟩, fun b hb => ?_, q⟩
 have e : b = s1.heap.objs.size := by simpa using hb
 subst e
 exact I1.fpOk (Nat.le_refl _) (I1.hok.fresh (Nat.le_refl _))
theorem range_it {pins : List (Addr × Obj)} {σ : St} {H : Hp} {s : Shared} {R : It → Hp → Prop} {E : Value → Shared → Prop} {lo hi : Int} {t u v : Tok} {tk : Nat} (I : Inv X pins σ H s) (h1 : -(2 ^ 62) ≤ lo) (h2 : lo < 2 ^ 62) (h3 : -(2 ^ 62) ≤ hi) (h4 : hi < 2 ^ 62)
  (q : R (Itr lo (hi - lo).toNat) H) : wpAny (model X.prog X.w) X.A (pyIter (.ref s.heap.objs.size)) (PIE X pins σ tg R) E { s with heap := s.heap.push { cls := .type "range", data := .fields #[.int lo t, .int hi u, .int 1 v] }, toks := tk } := by
 refine wpAny_pyIter_range (IsRange.new ..) (small_one h1 h2 h3 h4) ?_
 have I1 : Inv X pins σ H { s with heap := s.heap.push { cls := .type "range", data := .fields #[.int lo t, .int hi u, .int 1 v] }, toks := tk } := I.kept fun b o e => Heap.get?_push_of_some _ e
 refine ⟨(s.heap.push { cls := .type "range", data := .fields #[.int lo t, .int hi u, .int 1 v] }).objs.size, [(s.heap.push { cls := .type "range", data := .fields #[.int lo t, .int hi u, .int 1 v] }).objs.size], _, _, H, rfl,
  I1.kept (t' := tk) fun b o e => Heap.get?_push_of_some _ e, turn_range _ lo (hi - lo).toNat, ?_, fun b hb => ?_, q⟩
 ·have e1 : lo + ((0 : Nat) : Int) * 1 = lo := by simp
  have e2 : (((hi - lo).toNat : Nat) : Int) - ((0 : Nat) : Int) = Builtin.Range.rangeSize lo hi 1 := by rw [rangeSize_one]; split <;> omega
  show IsRangeIter _ _ (lo + ((0 : Nat) : Int) * 1) ((((hi - lo).toNat : Nat) : Int) - ((0 : Nat) : Int)) 1
  rw [e1, e2]
  exact Heap.get?_push_size _ rfl
 ·have e : b = (s.heap.push { cls := .type "range", data := .fields #[.int lo t, .int hi u, .int 1 v] }).objs.size := by simpa using hb
  subst e
  exact I1.fpOk (Nat.le_refl _) (I1.hok.fresh (Nat.le_refl _))
def iRng1 (ta : TA) : TI := fun σ H R => ta σ H fun vs H1 => ∃ j : Int, vs = [.int j] ∧ -(2 ^ 62) ≤ j ∧ j < 2 ^ 62 ∧ R (Itr 0 j.toNat) H1
theorem pi_range1 {a : Expr} {ta : TA} {p pos : Pos} (hg : Gl X "range") (hm : X.mg "range" = none) (ha : PA X [a] ta) (hs : starEach [a] X.env = [(false, eval a X.env)] := by rfl) : PI X tg (.Call (.Name "range" p) [a] [] pos) (iRng1 ta) := by
 intro pins s σ H R I h
 refine Call_ (ld_blt I hg hm boot_range (PyProof.Rows.callWith_type1 (thn (ha pos pins s σ H _ I h) fun us s1 ⟨vs, H1, I1, r1, q1⟩ => ?_) hs rfl))
 obtain ⟨j, e, q1, q2, q⟩ := q1
 subst e
 cases r1 with
 | cons r rr =>
  cases rr
  obtain ⟨t, rfl⟩ := r
  exact call_range_1 (range_it I1 (by omega) (by omega) q1 q2 (by simpa using q))
def tFor (wi : TI) (g : TG) (tb : TS) : TS := fun D σ H => wi σ H fun J H1 => ∃ W : Nat → Nat → St → Hp → Prop, (∃ m, W 0 m σ H1) ∧ ∀ i m σ H, W i m σ H →
 (J.stop i H ∧ D.nx σ H) ∨ (J.go i H ∧ ∃ N : St → Hp → Prop, (∀ σ' H', N σ' H' → ∃ m', m' < m ∧ W (i + 1) m' σ' H') ∧ ∀ x H', J.yld i H x H' → g x σ H' fun σ2 H2 => tb { D with nx := N, ct := N, bk := D.nx } σ2 H2)
def pinsAt (fp : List Addr) (h : Heap) : List (Addr × Obj) := fp.filterMap fun b => (h.get? b).map fun o => (b, o)
theorem mem_pinsAt {fp : List Addr} {h : Heap} {b : Addr} {o : Obj} (hb : b ∈ fp) (e : h.get? b = some o) : (b, o) ∈ pinsAt fp h := List.mem_filterMap.mpr ⟨b, hb, by rw [e]; rfl⟩
theorem of_pinsAt {fp : List Addr} {h : Heap} {p : Addr × Obj} (hp : p ∈ pinsAt fp h) : p.1 ∈ fp ∧ h.get? p.1 = some p.2 := by
 obtain ⟨b, hb, e⟩ := List.mem_filterMap.mp hp
 cases q : h.get? b with
 | none => rw [q] at e; cases e
 | some o =>
  rw [q] at e
  have e' : (b, o) = p := Option.some.inj e
  subst e'
  exact ⟨hb, q⟩
theorem Inv.pinned {pins : List (Addr × Obj)} {σ : St} {H : Hp} {s : Shared} {fp : List Addr} (I : Inv X pins σ H s) (hf : ∀ b ∈ fp, FpOk X pins H b) (ho : ∀ b ∈ fp, ∃ o, s.heap.get? b = some o ∧ ∀ v, o.data ≠ .cell v) : Inv X (pins ++ pinsAt fp s.heap) σ H s :=
 I.pins_of fun p hp => (List.mem_append.mp hp).elim (fun z => I.pin p (List.mem_append_right _ z)) fun z => by
  obtain ⟨hb, e⟩ := of_pinsAt z
  obtain ⟨f0, f1, f2, _⟩ := hf p.1 hb
  obtain ⟨o, e', d⟩ := ho p.1 hb
  rw [e] at e'; cases e'
  exact ⟨e, f0, f1, f2, d⟩
theorem Inv.unpinned {pins pl : List (Addr × Obj)} {σ : St} {H : Hp} {s : Shared} (I : Inv X (pins ++ pl) σ H s) : Inv X pins σ H s := I.pins_of fun p hp => I.pin p (List.mem_append_right _ (List.mem_append_left _ hp))
theorem ps_for {iter : Expr} {body : List Stmt} {wi : TI} {g : TG} {tb : TS} {pos : Pos} (hp : PassesOwn (model X.prog X.w) X.A X.env X.xe) (hc : X.calm = true) (hi : PI X tg iter wi) (hg : PG X tg g) (hb : PSs X body tb)
  (hs : ∀ x, foldedSetIterable iter X.env x = pure x := by intro _; rfl) : PS X (.For tg iter body [] pos) (tFor wi g tb) := by
 intro pins s σ H D I h
 refine wpAny_For (thn (hi pins s σ H _ I h) fun v s1 h1 => thn h1 fun itv s2 h2 => ?_) hs
 obtain ⟨it, fp, tn, J, H2, e, I2, T, st2, f2, W, ⟨m0, w0⟩, turn⟩ := h2
 subst e
 -- what stays true of the iterator's objects through the loop
 have stat : ∀ {H' : Hp}, (∀ b ∈ fp, H' b = none) → ∀ b ∈ fp, FpOk X pins H' b := fun hn b hb => ⟨hn b hb, (f2 b hb).2⟩
 refine codeAny_forLoop_any (fun n s' => ∃ i σ' H', Inv X pins σ' H' s' ∧ tn i s'.heap ∧ (∀ b ∈ fp, H' b = none) ∧ W i n σ' H') ?_ m0 ⟨0, σ, H2, I2, st2, fun b hb => (f2 b hb).1, w0⟩
 rintro n s3 ⟨i, σ3, H3, I3, st3, fr3, w3⟩
 rcases turn i n σ3 H3 w3 with ⟨stop, qn⟩ | ⟨go, N, hN, step⟩
 ·refine wpAny_passesOwn hp (thn (T.done X rfl rfl rfl hc i pins s3 σ3 H3 X.xe I3 (stat fr3) st3 stop) fun r s4 ⟨hr, I4⟩ => ?_)
  subst hr
  exact wpAny_execs_nil ⟨σ3, H3, I4, qn⟩
 ·refine wpAny_passesOwn hp (thn (T.item X rfl rfl rfl hc i pins s3 σ3 H3 X.xe I3 (stat fr3) st3 go) fun r s4 ⟨u, hr, h4⟩ => ?_)
  subst hr
  refine wpAny_passesOwn hp (thn h4 fun _ s5 ⟨x, H5, I5, r5, y5, st5, fr5⟩ => ?_)
  have I5' := I5.pinned (stat fr5) (T.obj _ _ st5)
  refine wpAny_passesOwn hp (thn (hg _ s5 σ3 H5 x u _ I5' r5 (step x H5 y5)) fun _ s6 ⟨σ6, H6, I6, q6⟩ => ?_)
  refine wpAny_passesOwn hp (thn (hb _ s6 σ6 H6 _ I6 q6) fun f s7 q7 => ?_)
  have again : ∀ {σ7 : St} {H7 : Hp}, Inv X (pins ++ pinsAt fp s5.heap) σ7 H7 s7 → N σ7 H7 → ∃ m, m < n ∧ ∃ i σ' H', Inv X pins σ' H' s7 ∧ tn i s7.heap ∧ (∀ b ∈ fp, H' b = none) ∧ W i m σ' H' := fun {σ7 H7} I7 n7 => by
   obtain ⟨m', hm, w7⟩ := hN σ7 H7 n7
   refine ⟨m', hm, i + 1, σ7, H7, I7.unpinned, T.keep _ _ _ st5 fun b hb o e => (I7.pin (b, o) (List.mem_append_right _ (List.mem_append_right _ (mem_pinsAt hb e)))).1, fun b hb => ?_, w7⟩
   obtain ⟨o, e, d⟩ := T.obj _ _ st5 b hb
   exact (I7.pin (b, o) (List.mem_append_right _ (List.mem_append_right _ (mem_pinsAt hb e)))).2.1
  cases f with
  | next => obtain ⟨σ7, H7, I7, n7⟩ := q7; exact again I7 n7
  | cont => obtain ⟨σ7, H7, I7, n7⟩ := q7; exact again I7 n7
  | brk => obtain ⟨σ7, H7, I7, q7⟩ := q7; exact ⟨σ7, H7, I7.unpinned, q7⟩
  | ret v => obtain ⟨x7, σ7, H7, I7, r7, q7⟩ := q7; exact ⟨x7, σ7, H7, I7.unpinned, r7, q7⟩
end
theorem for_list {K : PySem.W.Frag} {a : Addr} {xs : List V} {g : TG} {tb : TS} {D : Ends} {σ : St} {H : Hp} (Pv : Nat → St → Hp → Prop) (h0 : Pv 0 σ H) (hl : ∀ i σ H, i ≤ xs.length → Pv i σ H → SqL K H a xs)
  (hs : ∀ i x σ H, xs[i]? = some x → Pv i σ H → g x σ H fun σ2 H2 => tb { D with nx := Pv (i + 1), ct := Pv (i + 1), bk := D.nx } σ2 H2) (hd : ∀ σ H, Pv xs.length σ H → D.nx σ H) :
  ∃ W : Nat → Nat → St → Hp → Prop, (∃ m, W 0 m σ H) ∧ ∀ i m σ H, W i m σ H →
   ((Itl K a).stop i H ∧ D.nx σ H) ∨ ((Itl K a).go i H ∧ ∃ N : St → Hp → Prop, (∀ σ' H', N σ' H' → ∃ m', m' < m ∧ W (i + 1) m' σ' H') ∧ ∀ x H', (Itl K a).yld i H x H' → g x σ H' fun σ2 H2 => tb { D with nx := N, ct := N, bk := D.nx } σ2 H2) := by
 refine ⟨fun i m σ H => m = xs.length - i ∧ i ≤ xs.length ∧ Pv i σ H, ⟨xs.length, by simp, Nat.zero_le _, h0⟩, ?_⟩
 rintro i m σ H ⟨rfl, hi, p⟩
 have q := hl i σ H hi p
 by_cases hlt : i < xs.length
 ·refine .inr ⟨⟨xs, xs[i], q, by simp [hlt]⟩, Pv (i + 1), fun σ' H' p' => ⟨xs.length - (i + 1), by omega, rfl, hlt, p'⟩, fun x H' y => ?_⟩
  obtain ⟨e, y⟩ := y
  subst e
  exact hs i x σ _ (y xs q) p
 ·have e : i = xs.length := by omega
  subst e
  exact .inl ⟨⟨xs, q, Nat.le_refl _⟩, hd σ H p⟩
theorem for_range {lo : Int} {n : Nat} {g : TG} {tb : TS} {D : Ends} {σ : St} {H : Hp} (Pv : Nat → St → Hp → Prop) (h0 : Pv 0 σ H)
  (hs : ∀ i σ H, i < n → Pv i σ H → g (.int (lo + i)) σ H fun σ2 H2 => tb { D with nx := Pv (i + 1), ct := Pv (i + 1), bk := D.nx } σ2 H2) (hd : ∀ σ H, Pv n σ H → D.nx σ H) :
  ∃ W : Nat → Nat → St → Hp → Prop, (∃ m, W 0 m σ H) ∧ ∀ i m σ H, W i m σ H →
   ((Itr lo n).stop i H ∧ D.nx σ H) ∨ ((Itr lo n).go i H ∧ ∃ N : St → Hp → Prop, (∀ σ' H', N σ' H' → ∃ m', m' < m ∧ W (i + 1) m' σ' H') ∧ ∀ x H', (Itr lo n).yld i H x H' → g x σ H' fun σ2 H2 => tb { D with nx := N, ct := N, bk := D.nx } σ2 H2) := by
 refine ⟨fun i m σ H => m = n - i ∧ i ≤ n ∧ Pv i σ H, ⟨n, by simp, Nat.zero_le _, h0⟩, ?_⟩
 rintro i m σ H ⟨rfl, hi, p⟩
 by_cases hlt : i < n
 ·refine .inr ⟨hlt, Pv (i + 1), fun σ' H' p' => ⟨n - (i + 1), by omega, rfl, hlt, p'⟩, fun x H' y => ?_⟩
  obtain ⟨e, y⟩ := y
  subst e y
  exact hs i σ _ hlt p
 ·have e : i = n := by omega
  subst e
  exact .inl ⟨Nat.le_refl _, hd σ H p⟩
end L2
namespace L2
open PySem PySem.Spec PyProof.Rows
abbrev R2 := V → V → Hp → VK → Prop
def OpR (X : Cx) (f : Value → Value → Sem Value) (r : R2) : Prop :=
 ∀ (pins : List (Addr × Obj)) (s : Shared) (σ : St) (H : Hp) (x y : V) (v u : Value) (Q : VK), Inv X pins σ H s → RelV x v → RelV y u → r x y H Q →
  wpAny (model X.prog X.w) X.A (f v u) (EP X pins σ Q) X.xe s
def UnR (X : Cx) (f : Value → Sem Value) (r : V → Hp → VK → Prop) : Prop :=
 ∀ (pins : List (Addr × Obj)) (s : Shared) (σ : St) (H : Hp) (x : V) (v : Value) (Q : VK), Inv X pins σ H s → RelV x v → r x H Q →
  wpAny (model X.prog X.w) X.A (f v) (EP X pins σ Q) X.xe s
def CallR (X : Cx) (f : Value) (r : List V → Hp → VK → Prop) : Prop :=
 ∀ (pins : List (Addr × Obj)) (s : Shared) (σ : St) (H : Hp) (xs : List V) (us : List Value) (Q : VK), Inv X pins σ H s → Vals xs us → r xs H Q →
  wpAny (model X.prog X.w) X.A (call f us) (EP X pins σ Q) X.xe s
def tOp (r : R2) (ta tb : TE) : TE := fun σ H Q => ta σ H fun x H1 => tb σ H1 fun y H2 => r x y H2 Q
def tUn (r : V → Hp → VK → Prop) (ta : TE) : TE := fun σ H Q => ta σ H fun x H1 => r x H1 Q
def rI (C : Int → Int → Prop) (g : Int → Int → V) : R2 := fun x y H Q => ∃ i j, x = .int i ∧ y = .int j ∧ C i j ∧ Q (g i j) H
def rI0 (g : Int → Int → V) : R2 := fun x y H Q => ∃ i j, x = .int i ∧ y = .int j ∧ Q (g i j) H
def rU (g : Int → V) : V → Hp → VK → Prop := fun x H Q => ∃ i, x = .int i ∧ Q (g i) H
section
variable {X : Cx} {a b c : Expr} {ta tb tc : TE} {pos : Pos}
theorem binT (ha : PE X a ta) (hb : PE X b tb) {pins : List (Addr × Obj)} {s : Shared} {σ : St} {H : Hp} {R : V → V → Hp → Prop} (I : Inv X pins σ H s)
  (h : ta σ H fun x H1 => tb σ H1 fun y H2 => R x y H2) {Q : Value → Shared → Prop} {f : Value → Value → Sem Value}
  (hf : ∀ v u s2 x y H2, Inv X pins σ H2 s2 → RelV x v → RelV y u → R x y H2 → wpAny (model X.prog X.w) X.A (f v u) Q X.xe s2) :
  wpAny (model X.prog X.w) X.A (eval a X.env) (fun v s₁ => wpAny (model X.prog X.w) X.A (eval b X.env) (fun u s₂ => wpAny (model X.prog X.w) X.A (f v u) Q X.xe s₂) X.xe s₁) X.xe s := by
 refine thn (ha pins s σ H _ I h) fun v s1 ⟨x, H1, I1, r1, q1⟩ => ?_
 refine thn (hb pins s1 σ H1 _ I1 q1) fun u s2 ⟨y, H2, I2, r2, q2⟩ => ?_
 exact hf v u s2 x y H2 I2 r1 r2 q2
theorem pe_op {op : Operator} {r : R2} (ho : OpR X (binaryOp op) r) (ha : PE X a ta) (hb : PE X b tb) : PE X (.BinOp a op b pos) (tOp r ta tb) := by
 intro pins s σ H Q I h
 exact wpAny_BinOp (binT ha hb I h fun v u s2 x y H2 I2 rx ry q => ho pins s2 σ H2 x y v u Q I2 rx ry q)
theorem pe_un {op : UnaryOp} {r : V → Hp → VK → Prop} (ho : UnR X (unaryOp op) r) (ha : PE X a ta) : PE X (.UnaryOp op a pos) (tUn r ta) := by
 intro pins s σ H Q I h
 exact UnaryOp_ (thn (ha pins s σ H _ I h) fun v s1 ⟨x, H1, I1, r1, q1⟩ => ho pins s1 σ H1 x v Q I1 r1 q1)
theorem opI {f : Value → Value → Sem Value} {C : Int → Int → Prop} {g : Int → Int → Int}
  (rule : ∀ (i j : Int) (t u : Tok) (s : Shared) (Q : Value → Shared → Prop) (E : Value → Shared → Prop), C i j → Q (.int (g i j) s.toks) { s with toks := s.toks + 1 } → wpAny (model X.prog X.w) X.A (f (.int i t) (.int j u)) Q E s) :
  OpR X f (rI C fun i j => .int (g i j)) := by
 intro pins s σ H x y v u Q I rx ry h
 obtain ⟨i, j, rfl, rfl, hc, q⟩ := h
 obtain ⟨t, rfl⟩ := rx
 obtain ⟨t', rfl⟩ := ry
 exact rule i j t t' s _ _ hc ⟨.int (g i j), H, I.tok _, ⟨_, rfl⟩, q⟩
theorem opI0 {f : Value → Value → Sem Value} {g : Int → Int → Int}
  (rule : ∀ (i j : Int) (t u : Tok) (s : Shared) (Q : Value → Shared → Prop) (E : Value → Shared → Prop), Q (.int (g i j) s.toks) { s with toks := s.toks + 1 } → wpAny (model X.prog X.w) X.A (f (.int i t) (.int j u)) Q E s) :
  OpR X f (rI0 fun i j => .int (g i j)) := by
 intro pins s σ H x y v u Q I rx ry h
 obtain ⟨i, j, rfl, rfl, q⟩ := h
 obtain ⟨t, rfl⟩ := rx
 obtain ⟨t', rfl⟩ := ry
 exact rule i j t t' s _ _ ⟨.int (g i j), H, I.tok _, ⟨_, rfl⟩, q⟩
theorem opB0 {f : Value → Value → Sem Value} {g : Int → Int → Bool}
  (rule : ∀ (i j : Int) (t u : Tok) (s : Shared) (Q : Value → Shared → Prop) (E : Value → Shared → Prop), Q (.bool (g i j)) s → wpAny (model X.prog X.w) X.A (f (.int i t) (.int j u)) Q E s) :
  OpR X f (rI0 fun i j => .bl (g i j)) := by
 intro pins s σ H x y v u Q I rx ry h
 obtain ⟨i, j, rfl, rfl, q⟩ := h
 obtain ⟨t, rfl⟩ := rx
 obtain ⟨t', rfl⟩ := ry
 exact rule i j t t' s _ _ ⟨.bl (g i j), H, I, rfl, q⟩
def CDiv (i j : Int) : Prop := 0 < j ∧ j < 1073741824
def CPow (i j : Int) : Prop := 0 ≤ j ∧ j ≤ 1000000 ∧ i.natAbs < 2 ^ 64
def CMul (i j : Int) : Prop := (-(2 ^ 64) < i ∧ i < 2 ^ 64) ∨ (-(2 ^ 64) < j ∧ j < 2 ^ 64)
theorem CMul.ok {i j : Int} (h : CMul i j) : IntMulOk i j := by
 rcases h with ⟨h1, h2⟩ | ⟨h1, h2⟩
 ·exact .of_left (intBits_le_64 h1 h2)
 ·exact .of_right (intBits_le_64 h1 h2)
theorem op_add : OpR X (binaryOp .Add) (rI0 fun i j => .int (i + j)) := opI0 fun _ _ _ _ _ _ _ q => add_int q
theorem op_sub : OpR X (binaryOp .Sub) (rI0 fun i j => .int (i - j)) := opI0 fun _ _ _ _ _ _ _ q => sub_int q
theorem op_mul : OpR X (binaryOp .Mult) (rI CMul fun i j => .int (i * j)) := opI fun _ _ _ _ _ _ _ hc q => mul_int q hc.ok
theorem op_fdiv : OpR X (binaryOp .FloorDiv) (rI CDiv fun i j => .int (i / j)) := opI fun i j _ _ _ _ _ hc q => by
 have h1 : (0 : Int) < j := hc.1
 have h2 : j < 1073741824 := hc.2
 exact floordiv_int (by omega) (by rw [Int.fdiv_eq_ediv_of_nonneg i (by omega)]; exact q) (.inl (PyProof.noPylong_small (by omega)))
theorem op_mod : OpR X (binaryOp .Mod) (rI (fun _ j => 0 < j) fun i j => .int (i % j)) := opI fun i j _ _ _ _ _ hc q => by
 have h1 : (0 : Int) < j := hc
 exact mod_int' (by omega) (by rw [Int.fmod_eq_emod_of_nonneg i (by omega)]; exact q)
theorem op_pow : OpR X (binaryOp .Pow) (rI CPow fun i j => .int (i ^ j.toNat)) := opI fun _ _ _ _ _ _ _ hc q => pow_int_small hc.1 hc.2.1 hc.2.2 q
theorem unI {f : Value → Sem Value} {g : Int → Int}
  (rule : ∀ (i : Int) (t : Tok) (s : Shared) (Q : Value → Shared → Prop) (E : Value → Shared → Prop), Q (.int (g i) s.toks) { s with toks := s.toks + 1 } → wpAny (model X.prog X.w) X.A (f (.int i t)) Q E s) :
  UnR X f (rU fun i => .int (g i)) := by
 intro pins s σ H x v Q I rx h
 obtain ⟨i, rfl, q⟩ := h
 obtain ⟨t, rfl⟩ := rx
 exact rule i t s _ _ ⟨.int (g i), H, I.tok _, ⟨_, rfl⟩, q⟩
theorem un_neg : UnR X (unaryOp .USub) (rU fun i => .int (-i)) := unI fun _ _ _ _ _ q => neg_int q
end
def scal : V → V → Bool
 | .non, .non => true | .non, .int _ => true | .int _, .non => true | .non, .bl _ => true | .bl _, .non => true | .non, .str _ => true | .str _, .non => true
 | .int _, .int _ => true | .bl _, .bl _ => true | .str _, .str _ => true | .byt _, .byt _ => true
 | .int _, .str _ => true | .str _, .int _ => true | .bl _, .str _ => true | .str _, .bl _ => true
 | _, _ => false
def rEq : R2 := fun x y H Q => scal x y = true ∧ Q (.bl (decide (x = y))) H
def rNe : R2 := fun x y H Q => scal x y = true ∧ Q (.bl (!decide (x = y))) H
theorem dec_int {i j : Int} : decide (V.int i = V.int j) = (i == j) := by
 rw [Bool.eq_iff_iff]
 simp
theorem dec_bl {i j : Bool} : decide (V.bl i = V.bl j) = (i == j) := by
 rw [Bool.eq_iff_iff]
 simp
theorem dec_str {i j : Str} : decide (V.str i = V.str j) = (i == j) := by
 rw [Bool.eq_iff_iff]
 simp
theorem dec_byt {i j : Array UInt8} : decide (V.byt i = V.byt j) = (i.toList == j.toList) := by
 rw [Bool.eq_iff_iff]
 cases i
 cases j
 simp
section
variable {X : Cx} {a b c : Expr} {ta tb tc : TE} {pos : Pos}
theorem fin_bl {pins : List (Addr × Obj)} {σ : St} {H : Hp} {s : Shared} {Q : VK} {k k' : Bool} (I : Inv X pins σ H s) (q : Q (.bl k) H) (e : k = k') : EP X pins σ Q (.bool k') s := by
 subst e
 exact ⟨.bl k, H, I, rfl, q⟩
theorem op_eq : OpR X (compareOp .Eq) rEq := by
 intro pins s σ H x y v u Q I rx ry h
 obtain ⟨hs, q⟩ := h
 cases x with
 | non =>
  cases rx
  cases y with
  | non => cases ry; exact PySem.EqNone.eq_none_none (fin_bl I q (by simp))
  | bl j => cases ry; exact PySem.EqNone.eq_none_bool (fin_bl I q (by simp))
  | int j => obtain ⟨t', rfl⟩ := ry; exact PySem.EqNone.eq_none_int (fin_bl I q (by simp))
  | str j => obtain ⟨t', rfl⟩ := ry; exact PySem.EqNone.eq_none_str (fin_bl I q (by simp))
  | _ => exact absurd (show false = true from hs) Bool.false_ne_true
 | bl i =>
  cases rx
  cases y with
  | non => cases ry; exact PySem.EqNone.eq_bool_none (fin_bl I q (by simp))
  | bl j => cases ry; exact eq_bool (fin_bl I q dec_bl)
  | str j => obtain ⟨t', rfl⟩ := ry; exact PySem.EqMixed.eq_bool_str (fin_bl I q (by simp))
  | _ => exact absurd (show false = true from hs) Bool.false_ne_true
 | int i =>
  obtain ⟨t, rfl⟩ := rx
  cases y with
  | non => cases ry; exact PySem.EqNone.eq_int_none (fin_bl I q (by simp))
  | int j => obtain ⟨t', rfl⟩ := ry; exact eq_int (fin_bl I q dec_int)
  | str j => obtain ⟨t', rfl⟩ := ry; exact PySem.EqMixed.eq_int_str (fin_bl I q (by simp))
  | _ => exact absurd (show false = true from hs) Bool.false_ne_true
 | str i =>
  obtain ⟨t, rfl⟩ := rx
  cases y with
  | non => cases ry; exact PySem.EqNone.eq_str_none (fin_bl I q (by simp))
  | bl j => cases ry; exact PySem.EqMixed.eq_str_bool (fin_bl I q (by simp))
  | int j => obtain ⟨t', rfl⟩ := ry; exact PySem.EqMixed.eq_str_int (fin_bl I q (by simp))
  | str j => obtain ⟨t', rfl⟩ := ry; exact eq_str (fin_bl I q dec_str)
  | _ => exact absurd (show false = true from hs) Bool.false_ne_true
 | byt i =>
  obtain ⟨t, rfl⟩ := rx
  cases y with
  | byt j => obtain ⟨t', rfl⟩ := ry; exact PySem.W.eq_bytes (fin_bl I q dec_byt)
  | _ => exact absurd (show false = true from hs) Bool.false_ne_true
 | _ => cases y <;> exact absurd (show false = true from hs) Bool.false_ne_true
theorem op_ne : OpR X (compareOp .NotEq) rNe := by
 intro pins s σ H x y v u Q I rx ry h
 obtain ⟨hs, q⟩ := h
 cases x with
 | non =>
  cases rx
  cases y with
  | non => cases ry; exact PySem.EqNone.ne_none_none (fin_bl I q (by simp))
  | bl j => cases ry; exact PySem.EqNone.ne_none_bool (fin_bl I q (by simp))
  | int j => obtain ⟨t', rfl⟩ := ry; exact PySem.EqNone.ne_none_int (fin_bl I q (by simp))
  | str j => obtain ⟨t', rfl⟩ := ry; exact PySem.EqNone.ne_none_str (fin_bl I q (by simp))
  | _ => exact absurd (show false = true from hs) Bool.false_ne_true
 | bl i =>
  cases rx
  cases y with
  | non => cases ry; exact PySem.EqNone.ne_bool_none (fin_bl I q (by simp))
  | bl j => cases ry; exact ne_bool (fin_bl I q (congrArg not dec_bl))
  | str j => obtain ⟨t', rfl⟩ := ry; exact PySem.EqMixed.ne_bool_str (fin_bl I q (by simp))
  | _ => exact absurd (show false = true from hs) Bool.false_ne_true
 | int i =>
  obtain ⟨t, rfl⟩ := rx
  cases y with
  | non => cases ry; exact PySem.EqNone.ne_int_none (fin_bl I q (by simp))
  | int j => obtain ⟨t', rfl⟩ := ry; exact ne_int (fin_bl I q (congrArg not dec_int))
  | str j => obtain ⟨t', rfl⟩ := ry; exact PySem.EqMixed.ne_int_str (fin_bl I q (by simp))
  | _ => exact absurd (show false = true from hs) Bool.false_ne_true
 | str i =>
  obtain ⟨t, rfl⟩ := rx
  cases y with
  | non => cases ry; exact PySem.EqNone.ne_str_none (fin_bl I q (by simp))
  | bl j => cases ry; exact PySem.EqMixed.ne_str_bool (fin_bl I q (by simp))
  | int j => obtain ⟨t', rfl⟩ := ry; exact PySem.EqMixed.ne_str_int (fin_bl I q (by simp))
  | str j => obtain ⟨t', rfl⟩ := ry; exact ne_str (fin_bl I q (congrArg not dec_str))
  | _ => exact absurd (show false = true from hs) Bool.false_ne_true
 | byt i =>
  obtain ⟨t, rfl⟩ := rx
  cases y with
  | byt j => obtain ⟨t', rfl⟩ := ry; exact PySem.W.ne_bytes (fin_bl I q (congrArg not dec_byt))
  | _ => exact absurd (show false = true from hs) Bool.false_ne_true
 | _ => cases y <;> exact absurd (show false = true from hs) Bool.false_ne_true
theorem op_lt : OpR X (compareOp .Lt) (rI0 fun i j => .bl (decide (i < j))) := opB0 fun _ _ _ _ _ _ _ q => lt_int q
theorem op_le : OpR X (compareOp .LtE) (rI0 fun i j => .bl (decide (i ≤ j))) := opB0 fun _ _ _ _ _ _ _ q => le_int q
theorem op_gt : OpR X (compareOp .Gt) (rI0 fun i j => .bl (decide (j < i))) := opB0 fun _ _ _ _ _ _ _ q => gt_int q
theorem op_ge : OpR X (compareOp .GtE) (rI0 fun i j => .bl (decide (j ≤ i))) := opB0 fun _ _ _ _ _ _ _ q => ge_int q
theorem nomark (b : Expr) {op : CmpOp} (h : op ≠ .In := by decide) (h2 : op ≠ .NotIn := by decide) : behindInMarks op b = false := by
 have e1 : (op == CmpOp.In) = false := by cases op <;> first | rfl | exact absurd rfl h
 have e2 : (op == CmpOp.NotIn) = false := by cases op <;> first | rfl | exact absurd rfl h2
 cases b <;> simp [behindInMarks, e1, e2]
theorem pe_cmpR {op : CmpOp} {r : R2} (ho : OpR X (compareOp op) r) (ha : PE X a ta) (hb : PE X b tb) (hm : behindInMarks op b = false) : PE X (.Compare a [op] [b] pos) (tOp r ta tb) := by
 intro pins s σ H Q I h
 exact wpAny_Compare1 (binT ha hb I h fun v u s2 x y H2 I2 rx ry q => ho pins s2 σ H2 x y v u Q I2 rx ry q) hm
theorem line63 : (sizeLine : Nat) < 2 ^ 63 := by rw [sizeLine_eq]; decide
theorem vals1 {x : V} {us : List Value} (r : Vals [x] us) : ∃ u, us = [u] ∧ RelV x u := by
 cases r with
 | cons r1 r2 => cases r2; exact ⟨_, rfl, r1⟩
theorem vals2 {x y : V} {us : List Value} (r : Vals [x, y] us) : ∃ u w', us = [u, w'] ∧ RelV x u ∧ RelV y w' := by
 cases r with
 | cons r1 r2 =>
  cases r2 with
  | cons r3 r4 => cases r4; exact ⟨_, _, rfl, r1, r3⟩
theorem call_max2 (hc : X.calm = true) : CallR X (.builtin "max") (fun xs H Q => ∃ i j, xs = [.int i, .int j] ∧ Q (.int (if j > i then j else i)) H) := by
 intro pins s σ H xs us Q I r h
 obtain ⟨i, j, rfl, q⟩ := h
 obtain ⟨u, w', rfl, ⟨t, rfl⟩, ⟨t', rfl⟩⟩ := vals2 r
 refine max_two_ints (I.ok.hd hc) fun h' tk k => ⟨_, H, I.kept k, ?_, q⟩
 by_cases hj : j > i
 ·rw [if_pos hj, if_pos hj]; exact ⟨_, rfl⟩
 ·rw [if_neg hj, if_neg hj]; exact ⟨_, rfl⟩
theorem call_min2 (hc : X.calm = true) : CallR X (.builtin "min") (fun xs H Q => ∃ i j, xs = [.int i, .int j] ∧ Q (.int (if j < i then j else i)) H) := by
 intro pins s σ H xs us Q I r h
 obtain ⟨i, j, rfl, q⟩ := h
 obtain ⟨u, w', rfl, ⟨t, rfl⟩, ⟨t', rfl⟩⟩ := vals2 r
 refine min_two_ints (I.ok.hd hc) fun h' tk k => ⟨_, H, I.kept k, ?_, q⟩
 by_cases hj : j < i
 ·rw [if_pos hj, if_pos hj]; exact ⟨_, rfl⟩
 ·rw [if_neg hj, if_neg hj]; exact ⟨_, rfl⟩
theorem call_int1 : CallR X (.type "int") (fun xs H Q => (∃ i, xs = [.int i] ∧ Q (.int i) H) ∨ ∃ k, xs = [.bl k] ∧ Q (.int (if k then 1 else 0)) H) := by
 intro pins s σ H xs us Q I r h
 rcases h with ⟨i, rfl, q⟩ | ⟨k, rfl, q⟩
 ·obtain ⟨u, rfl, t, rfl⟩ := vals1 r
  exact call_int_int ⟨.int i, H, I, ⟨_, rfl⟩, q⟩
 ·obtain ⟨u, rfl, r1⟩ := vals1 r
  cases r1
  exact call_int_bool ⟨.int (if k then 1 else 0), H, I.tok _, ⟨_, rfl⟩, q⟩
theorem call_divmod : CallR X (.builtin "divmod") (fun xs H Q => ∃ i j, xs = [.int i, .int j] ∧ CDiv i j ∧ ∀ p, H p = none → Q (.ref p) (upd H p (.tup [.int (i / j), .int (i % j)]))) := by
 intro pins s σ H xs us Q I r h
 obtain ⟨i, j, rfl, ⟨h1, h2⟩, q⟩ := h
 obtain ⟨u, w', rfl, ⟨t, rfl⟩, ⟨t', rfl⟩⟩ := vals2 r
 refine divmod_int (by omega) ?_ (.inl (PyProof.noPylong_small (by omega)))
 rw [Int.fdiv_eq_ediv_of_nonneg i (by omega), Int.fmod_eq_emod_of_nonneg i (by omega)]
 have hn : H s.heap.objs.size = none := I.hok.fresh (Nat.le_refl _)
 refine ⟨.ref s.heap.objs.size, _, ?_, rfl, q _ hn⟩
 refine I.laid (fun b o e => Heap.get?_push_of_some _ e) (Nat.le_refl _) ⟨by simp only [List.length_cons, List.length_nil]; rw [sizeLine_eq]; decide, [.int (i / j) s.toks, .int (i % j) (s.toks + 1)], .cons ⟨_, rfl⟩ (.cons ⟨_, rfl⟩ .nil), ?_⟩
 exact ⟨_, Heap.get?_push_size s.heap rfl, rfl, 0, rfl⟩
end
end L2
namespace L2
open PySem PySem.Spec PyProof.Rows
structure ObjM (h : Heap) (x dx C : Addr) (mA : Str → Option Value) : Prop where
 obj : h.get? x = some (PySem.W.instObj C dx)
 ns : h.Ns1 dx mA
 ne : dx ≠ x
section
variable {prog : Program} {w : World} {A : Around} {E : Value → Shared → Prop} {s : Shared} {K : PySem.W.Frag} {x dx C f : Addr} {mA : Str → Option Value} {name : Str} {v : Value}
end
section
variable {P : Program} {w : World} {H H' : Hp} {h h' : Heap} {a C dx : Addr} {fs fs' : List (Str × V)}
end
structure Cls (K : PySem.W.Frag) (C : Addr) : Prop where
 pg : PySem.W.plainGet K C Str.empty = true
 hd : PySem.W.hasDictIn K C = true
 po : PySem.W.plainOver K C = true
 sa : PySem.W.findIn K (.ref C) "__setattr__" = some (some (.builtin "object.__setattr__"))
structure Con (K : PySem.W.Frag) (C : Addr) (f : Str) (v : V) (u : Value) : Prop where
 at_ : PySem.W.findIn K (.ref C) f = some (some u)
 rel : RelV v u
 get : PySem.W.specialIn K u "__get__" = some none
 cp : PySem.W.copiedNames.contains f = false
structure Meth (K : PySem.W.Frag) (C : Addr) (m : Str) (f : Addr) : Prop where
 at_ : PySem.W.findIn K (.ref C) m = some (some (.ref f))
 fn : PySem.W.isFn K (.ref f) = true
 kp : PySem.W.keepIn K (.ref f) = true
section
variable {X : Cx} {pins : List (Addr × Obj)} {σ : St} {H : Hp} {s : Shared} {a C dx : Addr} {fs : List (Str × V)} {f : Str} {v : V} {A : Around} {E : Value → Shared → Prop}
end
section
variable {X : Cx} {o e value : Expr} {f : Str} {pos pos' tpos : Pos} {ta tv : TE}
end
section
variable {X : Cx} {pins : List (Addr × Obj)} {σ : St} {H : Hp} {s : Shared} {A : Around} {E : Value → Shared → Prop} {Q : Value → Shared → Prop} {c : Value} {b : Bool}
inductive TyOf (K : PySem.W.Frag) (H : Hp) : V → Value → Prop where
 | non : TyOf K H .non (.type "NoneType")
 | bl (x : Bool) : TyOf K H (.bl x) (.type "bool")
 | int (i : Int) : TyOf K H (.int i) (.type "int")
 | str (x : Str) : TyOf K H (.str x) (.type "str")
 | flt (x : UInt64) : TyOf K H (.flt x) (.type "float")
 | lst {a : Addr} {xs : List V} (e : H a = some (.lst xs)) : TyOf K H (.ref a) (.type "list")
 | frz {a : Addr} {o : Obj} {xs : List V} (e : H a = some (.frz o (.lst xs))) : TyOf K H (.ref a) (.type "list")
 | tup {a : Addr} {xs : List V} (e : H a = some (.tup xs)) : TyOf K H (.ref a) (.type "tuple")
 | dK {a : Addr} {kvs : List (Key × V)} (e : H a = some (.dK kvs)) : TyOf K H (.ref a) (.type "dict")
 | dT {a : Addr} {kvs : List (List Key × V)} (e : H a = some (.dT kvs)) : TyOf K H (.ref a) (.type "dict")
 | ins {a C dx : Addr} {fs : List (Str × V)} (e : H a = some (.ins C dx fs)) (cl : Cls K C) (ha : PySem.W.findIn K (.ref C) "__class__" = some (some (.builtin "object.__class__")))
   (hn : PySem.W.specialIn K (.builtin "object.__class__") "__get__" = some (some (.builtin "getset_descriptor.__get__"))) (htk : PySem.W.takesIn K (.builtin "object.__class__") = some true)
   (hm : PySem.W.mroIn K C (.type "object") = some true) : TyOf K H (.ref a) (.ref C)
end
end L2
namespace L2
open PySem PySem.Spec PyProof.Rows
structure Room (k : Nat) (A : Around) : Prop where
 hd : A.handled = none
 dp : A.depth + 3 * k + 5 < recursionLimit
 un : A.units + 16 * k + 200 < cLine
 gd : A.guards = some []
theorem Room.mono {j k : Nat} {A : Around} (r : Room k A) (h : j ≤ k) : Room j A := ⟨r.hd, by have := r.dp; omega, by have := r.un; omega, r.gd⟩
theorem Room.deeper {k : Nat} {A : Around} (r : Room (k + 1) A) (env : Env) : Room k (A.deeper env) :=
 ⟨r.hd, by have := r.dp; show A.depth + 1 + 3 * k + 5 < _; omega, by have := r.un; show A.units + 3 + 16 * k + 200 < _; omega, r.gd⟩
theorem Room.depth {k : Nat} {A : Around} (r : Room k A) : A.depth < recursionLimit := by have := r.dp; omega
theorem Room.units0 {k : Nat} {A : Around} (r : Room k A) : A.units < cLine := by have := r.un; omega
def tNil : TA := fun _ H Q => Q [] H
def tCons (ta : TE) (tr : TA) : TA := fun σ H Q => ta σ H fun x H1 => tr σ H1 fun xs H2 => Q (x :: xs) H2
section
variable {X : Cx} {e : Expr} {es : List Expr} {te : TE} {t : TA} {pos : Pos}
theorem pa_nil : PA X [] tNil := fun _ _ _ _ H Q I h => Calls.spliced_nil ⟨[], H, I, .nil, h⟩
theorem pa_cons (ha : PE X e te) (hr : PA X es t) (hs : starEach (e :: es) X.env = (false, eval e X.env) :: starEach es X.env := by rfl) : PA X (e :: es) (tCons te t) := by
 intro pos pins s σ H Q I h
 rw [hs]
 show wpAny _ _ (spliced ((false, eval e X.env) :: backTo pos (starEach es X.env))) _ _ s
 refine Calls.spliced_cons (thn (ha pins s σ H _ I h) fun u s1 ⟨x, H1, I1, r1, q1⟩ => ?_)
 exact thn (hr pos pins s1 σ H1 _ I1 q1) fun us s2 ⟨xs, H2, I2, r2, q2⟩ => ⟨x :: xs, H2, I2, .cons r1 r2, q2⟩
end
abbrev Sp := List V → Hp → VK → XK → Prop
abbrev CXT := List Env → Hp → Shared → XK → Value → Shared → Prop
structure Env0 (P : Program) (w : World) (K : PySem.W.Frag) (mg : Str → Option Value) (base : Heap) (A : Around) (outer : List Env) (s : Shared) (H : Hp) : Prop where
 frames : A.frames = some outer
 mod : Mod K mg base
 bs : ∀ b o, base.get? b = some o → s.heap.get? b = some o ∧ H b = none
 bsz : base.objs.size ≤ s.heap.objs.size
 funs : s.heap.FunFrames base outer
 frf : ∀ b ∈ frs outer, H b = none
 hok : HOk P w H s.heap
 bare : AllBare s.gens
def CE (outer : List Env) (P : Program) (w : World) (H : Hp) (s : Shared) (Q : VK) (u : Value) (s' : Shared) : Prop :=
 ∃ v H', s'.os = s.os ∧ AllBare s'.gens ∧ Un (frs outer) [] H H' s.heap s'.heap ∧ HOk P w H' s'.heap ∧ RelV v u ∧ Q v H'
def CR (CX : CXT) (outer : List Env) (P : Program) (w : World) (H : Hp) (s : Shared) (Q : VK) (E : XK) (r : Result) (s' : Shared) : Prop :=
 match r with
 | .ok (.ret u) => CE outer P w H s Q u s'
 | .ok _ => False
 | .error e => CX outer H s E e s'
structure FnOk (P : Program) (w : World) (K : PySem.W.Frag) (mg : Str → Option Value) (base : Heap) (CX : CXT) (k : Nat) (f : Addr) (fd : FuncData) (ps : List Str) (sp : Sp) : Prop where
 len : ∀ vs H Q E, sp vs H Q E → vs.length = ps.length
 run : ∀ (A : Around) (outer : List Env) (s : Shared) (H : Hp) (args : Args) (us : List Value) (vs : List V) (Q : VK) (E : XK), Room k A → Env0 P w K mg base A outer s H → BindsTo s fd args (ps.zip us) → Vals vs us → sp vs H Q E →
  codeAny (model P w) A (.call (.ref f) args) (CR CX outer P w H s Q E) s
section
variable {X : Cx} {pins : List (Addr × Obj)} {σ : St} {H : Hp} {s s' : Shared}
theorem Inv.env0 (I : Inv X pins σ H s) : Env0 X.prog X.w X.K X.mg X.base X.A X.stack s H :=
 ⟨I.ok.frames, I.ok.mod, I.bs, Nat.le_trans I.ok.bsz I.sz, I.stack, I.stkFree, I.hok, I.bare⟩
theorem Inv.after {Q : VK} {u : Value} (I : Inv X pins σ H s) (h : CE X.stack X.prog X.w H s Q u s') : EP X pins σ Q u s' := by
 obtain ⟨v, H', os, bare, un, hok, r, q⟩ := h
 obtain ⟨hh, g, d, t, os'⟩ := s'
 obtain rfl : os' = s.os := os
 exact ⟨v, H', I.call (h' := hh) (g' := g) (d' := d) (t' := t) (ch := []) un hok bare (fun b z => absurd z (by simp)), r, q⟩
end
def tCall (sp : Sp) (dvs : List V) (E : XK) (t : TA) : TE := fun σ H Q => t σ H fun vs H1 => sp (vs ++ dvs) H1 Q E
def Binds (K : PySem.W.Frag) (fd : FuncData) (ps : List Str) (ds : List Value) : Prop :=
 ∀ (s : Shared) (us : List Value), K.In s.heap → (us ++ ds).length = ps.length → BindsTo s fd ⟨us, []⟩ (ps.zip (us ++ ds))
theorem Binds.all {K : PySem.W.Frag} {fd : FuncData} {ps : List Str} (h : ∀ us : List Value, us.length = ps.length → bindArgs fd ⟨us, []⟩ = pure (ps.zip us)) : Binds K fd ps [] := fun s us _ hl => by
 rw [List.append_nil] at hl ⊢
 exact .of_eq (h us hl)
def Passes (CX : CXT) (X : Cx) (E : XK) : Prop := ∀ (pins : List (Addr × Obj)) (σ : St) (H : Hp) (s : Shared) (e : Value) (s' : Shared), Inv X pins σ H s → CX X.stack H s E e s' → X.xe e s'
section
variable {X : Cx} {CX : CXT} {k : Nat} {f C : Addr} {fd : FuncData} {ps : List Str} {sp : Sp} {dvs : List V} {ds : List Value} {E : XK} {x m : Str} {p pos apos : Pos} {e o : Expr} {es : List Expr} {ta : TE} {t : TA}
theorem run_fn {pins : List (Addr × Obj)} {σ : St} {H : Hp} {s : Shared} {Q : VK} {us : List Value} {vs : List V} (F : FnOk X.prog X.w X.K X.mg X.base CX k f fd ps sp) (hr : Room k X.A) (hb : Binds X.K fd ps ds) (hd : Vals dvs ds) (hx : Passes CX X E)
  (I : Inv X pins σ H s) (r : Vals vs us) (h : sp (vs ++ dvs) H Q E) : wpAny (model X.prog X.w) X.A (call (.ref f) us) (EP X pins σ Q) X.xe s := by
 have r2 : Vals (vs ++ dvs) (us ++ ds) := r.append hd
 have hl : (us ++ ds).length = ps.length := by rw [← r2.length]; exact F.len _ _ _ _ h
 refine wpAny_call (codeAny_mono (F.run X.A X.stack s H ⟨us, []⟩ (us ++ ds) (vs ++ dvs) Q E hr I.env0 (hb s us I.kIn hl) r2 h) fun r s' hq => ?_)
 cases r with
 | error e => exact hx pins σ H s e s' I hq
 | ok fl =>
  cases fl with
  | ret u => exact I.after hq
  | next => exact False.elim hq
  | brk => exact False.elim hq
  | cont => exact False.elim hq
theorem pe_call (F : FnOk X.prog X.w X.K X.mg X.base CX k f fd ps sp) (hr : Room k X.A) (hg : Gl X x) (hm : X.mg x = some (.ref f)) (hk : PySem.W.keepIn X.K (.ref f) = true) (hb : Binds X.K fd ps ds) (hd : Vals dvs ds) (hx : Passes CX X E)
  (ha : PA X (e :: es) t) (hdb : (x == ("__debug__" : Str)) = false := by decide) (he : starEach (e :: es) X.env = (false, eval e X.env) :: starEach es X.env := by rfl) (hpl : (backTo pos (starEach es X.env)).any (·.1) = false := by rfl) :
  PE X (.Call (.Name x p) (e :: es) [] pos) (tCall sp dvs E t) := by
 intro pins s σ H Q I h
 refine wpAny_Call_Name_kw (ld_glob I hg hm ?_ hdb)
 refine PySem.W.callWith_K (h₀ := X.base) I.ok.mod.kin hk (thn (ha pos pins s σ H _ I h) fun us s1 ⟨vs, H1, I1, r, q⟩ => ⟨I1.kIn, ?_⟩) he hpl
 exact run_fn F hr hb hd hx I1 r q
structure Mk (K : PySem.W.Frag) (C f : Addr) : Prop where
 makes : PySem.W.makesIn K C = true
 init : PySem.W.findIn K (.ref C) "__init__" = some (some (.ref f))
 fn : PySem.W.isFn K (.ref f) = true
 kp : PySem.W.keepIn K (.ref C) = true
end
section
variable {X : Cx} {CX : CXT} {k : Nat} {f C : Addr} {fd : FuncData} {ps ks : List Str} {sp : Sp} {E : XK} {x m : Str} {p pos apos kpos : Pos} {e o : Expr} {es : List Expr} {kws : List Keyword} {te ta : TE} {t tk : TA} {nm : Option Str}
structure KBinds (K : PySem.W.Frag) (fd : FuncData) (ps ks : List Str) (g : List Value → List Value → List Value) (gV : List V → List V → List V) : Prop where
 to : ∀ (s : Shared) (us ws : List Value), K.In s.heap → (g us ws).length = ps.length → BindsTo s fd ⟨us, ks.zip ws⟩ (ps.zip (g us ws))
 rel : ∀ {vs : List V} {us : List Value} {zs : List V} {ws : List Value}, Vals vs us → Vals zs ws → Vals (gV vs zs) (g us ws)
variable {g : List Value → List Value → List Value} {gV : List V → List V → List V}
end
structure FnScope (N P : List Str) (sc : Scope) : Prop where
 kind : sc.kind = .function
 co : sc.isCoroutine = false
 gen : sc.isGenerator = false
 nd : N.Nodup
 pre : N.take P.length = P
 par : ∀ x ∈ P, sc.names.lookup x = some .local ∨ sc.names.lookup x = some .cell
 nofree : ∀ y ∈ sc.names, y.2 ≠ .free
theorem bindL_out {kindOf : Str → Option NameKind} {x : Str} : ∀ {binds : List (Str × Value)} {m : Str → Option Value}, (∀ v, (x, v) ∉ binds) → bindL kindOf binds m x = m x
  | [], _, _ => rfl
  | (n, v) :: r, m, h => by
    unfold bindL
    rw [bindL_out fun w hw => h w (List.mem_cons_of_mem _ hw)]
    split
    · have : x ≠ n := by rintro rfl; exact h v List.mem_cons_self
      simp [this]
    · rfl
theorem bindC_out {kindOf : Str → Option NameKind} {x : Str} : ∀ {binds : List (Str × Value)} {m : Str → Option Value}, (∀ v, (x, v) ∉ binds) → bindC kindOf binds m x = m x
  | [], _, _ => rfl
  | (n, v) :: r, m, h => by
    unfold bindC
    rw [bindC_out fun w hw => h w (List.mem_cons_of_mem _ hw)]
    split
    · rfl
    · have : x ≠ n := by rintro rfl; exact h v List.mem_cons_self
      simp [this]
theorem bindL_get {kindOf : Str → Option NameKind} {x : Str} {v : Value} : ∀ {P : List Str} {vs : List Value} {i : Nat} {m : Str → Option Value}, P.Nodup → P[i]? = some x → vs[i]? = some v → kindOf x = some .local →
  bindL kindOf (P.zip vs) m x = some v
 | [], _, _, _, _, h, _, _ => by simp at h
 | _ :: _, [], _, _, _, _, h, _ => by simp at h
 | p :: P, w :: vs, 0, m, nd, h1, h2, hk => by
  simp at h1 h2; subst h1; subst h2
  show bindL kindOf ((p, w) :: P.zip vs) m p = _
  unfold bindL
  rw [bindL_out fun v hv => (List.nodup_cons.mp nd).1 (List.of_mem_zip hv).1, if_pos hk]
  simp
 | p :: P, w :: vs, i + 1, m, nd, h1, h2, hk => by
  show bindL kindOf ((p, w) :: P.zip vs) m x = _
  unfold bindL
  exact bindL_get (i := i) (List.nodup_cons.mp nd).2 (by simpa using h1) (by simpa using h2) hk
theorem bindC_get {kindOf : Str → Option NameKind} {x : Str} {v : Value} : ∀ {P : List Str} {vs : List Value} {i : Nat} {m : Str → Option Value}, P.Nodup → P[i]? = some x → vs[i]? = some v → kindOf x ≠ some .local →
  bindC kindOf (P.zip vs) m x = some v
 | [], _, _, _, _, h, _, _ => by simp at h
 | _ :: _, [], _, _, _, _, h, _ => by simp at h
 | p :: P, w :: vs, 0, m, nd, h1, h2, hk => by
  simp at h1 h2; subst h1; subst h2
  show bindC kindOf ((p, w) :: P.zip vs) m p = _
  unfold bindC
  rw [bindC_out fun v hv => (List.nodup_cons.mp nd).1 (List.of_mem_zip hv).1, if_neg hk]
  simp
 | p :: P, w :: vs, i + 1, m, nd, h1, h2, hk => by
  show bindC kindOf ((p, w) :: P.zip vs) m x = _
  unfold bindC
  exact bindC_get (i := i) (List.nodup_cons.mp nd).2 (by simpa using h1) (by simpa using h2) hk
def start (N : List Str) (vs : List V) : St := vs.map some ++ List.replicate (N.length - vs.length) none
def cxOf (CX : CXT) (P : Program) (w : World) (K : PySem.W.Frag) (mg : Str → Option Value) (base : Heap) (N : List Str) (qual : Str) (scope : Scope) (f : Addr) (cd : Value) (A : Around) (outer : List Env) (s : Shared) (H : Hp) (E : XK) : Cx where
 prog := P
 w := w
 K := K
 mg := mg
 base := base
 A := A.deeper (envOfC qual scope s.heap.objs.size f cd)
 N := N
 s₀ := s
 H₀ := H
 env := envOfC qual scope s.heap.objs.size f cd
 outer := outer
 stack := envOfC qual scope s.heap.objs.size f cd :: outer
 ex := []
 calm := true
 fn := fun _ => true
 pn := []
 xe := fun e s' => wpAny (model P w) (A.deeper (envOfC qual scope s.heap.objs.size f cd)) (leaving (envOfC qual scope s.heap.objs.size f cd) e) (fun _ s'' => CX outer H s E e s'') (fun e' s'' => CX outer H s E e' s'') s'
theorem cell_has {sc : Scope} {n : Nat} {x : Str} (h : sc.names.lookup x = some .cell) : ∃ c, (cellsFrom n sc.names []).lookup x = some c := by
 have q := PySem.W.cellsFrom_some sc.names n [] (.inl h)
 exact Option.isSome_iff_exists.mp q
theorem inv_start {CX : CXT} {P : Program} {w : World} {K : PySem.W.Frag} {mg : Str → Option Value} {base : Heap} {N ps : List Str} {qual : Str} {scope : Scope} {f : Addr} {cd : Value} {A : Around} {outer : List Env} {s s1 : Shared} {H : Hp} {E : XK} {us : List Value} {vs : List V}
  (S : FnScope N ps scope) (hd : A.handled = none) (e0 : Env0 P w K mg base A outer s H) (hl : vs.length = ps.length) (r : Vals vs us)
  (x : InCallC s s.heap.objs.size (bindL (envOfC qual scope s.heap.objs.size f cd).kindOf (ps.zip us) fun _ => none) (cellsFrom (s.heap.objs.size + 1) scope.names []) (bindC (envOfC qual scope s.heap.objs.size f cd).kindOf (ps.zip us) fun _ => none) s1) :
  Inv (cxOf CX P w K mg base N qual scope f cd A outer s H E) [] (start N vs) H s1 := by
 have hpl : ps.length ≤ N.length := by have := congrArg List.length S.pre; rw [List.length_take] at this; omega
 obtain ⟨h1, tk, rfl, hk⟩ := x.done
 have noA : ∀ b : Addr, b ∉ (cxOf CX P w K mg base N qual scope f cd A outer s H E).ex := fun b z => absurd (show b ∈ ([] : List Addr) from z) (by simp)
 refine ⟨⟨e0.mod, S.kind, rfl, rfl, Nat.le_refl _, fun y z c h1 h2 => ?_, fun y hy => ?_, fun y c _ h => ?_, fun _ => hd, Around.frames_deeper e0.frames, .inr ⟨rfl, rfl⟩, fun b z => absurd z (noA b), e0.bs, e0.bsz, fun b _ _ => noA b, fun b z => absurd z (noA b), e0.funs, e0.frf⟩,
  rfl, e0.bare, Un.kept hk, ⟨_, x.toInCall.ns, fun i y v h1 h2 h3 => ?_⟩, fun y c h => ⟨_, x.cell y c h⟩, e0.hok.fresh (Nat.le_refl _), fun y c h => ?_, fun p hp => absurd (show p ∈ ([] : List (Addr × Obj)) from hp) (by simp), e0.hok.kept hk, ?_⟩
 ·exact name_of_addr x.apart (PySem.mem_of_lookup h1) (PySem.mem_of_lookup h2)
 ·have hy : scope.names.lookup y = some .cell ∨ scope.names.lookup y = some .free := hy
  rcases hy with hy | hy
  ·exact cell_has hy
  ·exact absurd rfl (S.nofree _ (PySem.mem_of_lookup hy))
 ·exact Nat.le_of_lt (x.above y c (PySem.mem_of_lookup h))
 ·have hi : i < vs.length := by
   unfold start at h2
   by_cases hi : i < vs.length
   ·exact hi
   ·rw [List.getElem?_append_right (by simpa using hi)] at h2
    rw [List.getElem?_replicate] at h2
    split at h2 <;> cases h2
  have ha : vs[i]? = some v := by
   unfold start at h2
   rw [List.getElem?_append_left (by simpa using hi), List.getElem?_map] at h2
   cases e : vs[i]? with
   | none => rw [e] at h2; cases h2
   | some a => rw [e] at h2; cases h2; rfl
  obtain ⟨u, hu, rv⟩ := r.get ha
  have hp : ps[i]? = some y := by
   rw [← S.pre, List.getElem?_take_of_lt (by omega)]; exact h1
  have ndP : ps.Nodup := by rw [← S.pre]; exact S.nd.sublist (List.take_sublist _ _)
  refine ⟨u, rv, ?_⟩
  rcases S.par y (List.mem_of_getElem? hp) with k | k
  ·exact .inl ⟨k, bindL_get ndP hp hu k⟩
  ·obtain ⟨c, e⟩ := cell_has (n := s.heap.objs.size + 1) k
   refine .inr ⟨.inl k, c, e, ?_⟩
   have q := x.cell y c e
   rw [bindC_get ndP hp hu (by show scope.names.lookup y ≠ _; rw [k]; decide)] at q
   exact q
 ·exact e0.hok.fresh (Nat.le_of_lt (x.above y c (PySem.mem_of_lookup h)))
 ·unfold start
  show _ = N.length
  rw [List.length_append, List.length_map, List.length_replicate]
  omega
theorem fn_of {CX : CXT} {P : Program} {w : World} {K : PySem.W.Frag} {mg : Str → Option Value} {base : Heap} {k : Nat} {f : Addr} {name qual : Str} {params : Arguments} {body : List Stmt} {scope : Scope} {dV kV doc pm cdv ct oc : Value} {an od : Option Addr}
  {osl : Array (Option Value)} {N ps : List Str} {sp : Sp} (lk : K.lookup f = some ⟨oc, od, .func (PySem.W.fnOf name qual params body scope dV kV doc pm an cdv ct), osl⟩) (hcd : PySem.W.codeIn K cdv qual = true) (S : FnScope N ps scope)
  (len : ∀ vs H Q E, sp vs H Q E → vs.length = ps.length)
  (hbody : ∀ (A : Around) (outer : List Env) (s : Shared) (H : Hp) (vs : List V) (Q : VK) (E : XK), Room k (A.deeper (envOfC qual scope s.heap.objs.size f cdv)) → sp vs H Q E →
   ∃ t, PSs (cxOf CX P w K mg base N qual scope f cdv A outer s H E) body t ∧ t { nx := fun _ H' => Q .non H', rt := Q } (start N vs) H) :
  FnOk P w K mg base CX (k + 1) f (PySem.W.fnOf name qual params body scope dV kV doc pm an cdv ct) ps sp := by
 refine ⟨len, fun A outer s H args us vs Q E hr e0 hb r hsp => ?_⟩
 have hl := len _ _ _ _ hsp
 have KX : K.In s.heap := e0.mod.kin.keeps fun b o e => (e0.bs b o e).1
 have lim : s.heap.NoLimit := e0.mod.nolimit.keeps fun b o e => (e0.bs b o e).1
 have hkind : ∀ y ∈ ps.zip us, scope.names.lookup y.1 = some .local ∨ (scope.names.lookup y.1 = some .cell ∧ ((cellsFrom (s.heap.objs.size + 1) scope.names []).lookup y.1).isSome = true) := fun ⟨n, v⟩ hy => by
  rcases S.par n (List.of_mem_zip hy).1 with q | q
  ·exact .inl q
  ·exact .inr ⟨q, PySem.W.cellsFrom_some _ _ _ (.inl q)⟩
 refine codeAny_call_function hr.depth (KX _ _ lk) rfl S.co S.gen rfl (PySem.W.codeRec_of KX hcd) (hb _ _ _ _ ?_)
 refine wpAny_newFunctionEnv_cells S.kind hkind fun env he s1 x => ?_
 subst he
 refine ⟨lim.keeps x.toInCall.keep, codeAny_func ?_⟩
 obtain ⟨t, ht, hq⟩ := hbody A outer s H vs Q E (hr.deeper _) hsp
 have I : Inv (cxOf CX P w K mg base N qual scope f cdv A outer s H E) [] (start N vs) H s1 := inv_start S hr.hd e0 hl r x
 refine wpAny_mono (ht [] s1 (start N vs) H _ I hq) (fun fl s' hs => ?_) fun e s' hs => hs
 have fin : ∀ {σ' : St} {H' : Hp} {v : V} {u : Value}, Inv (cxOf CX P w K mg base N qual scope f cdv A outer s H E) [] σ' H' s' → RelV v u → Q v H' → CE outer P w H s Q u s' :=
  fun {σ' H' v u} J rv q => ⟨v, H', J.os, J.bare, J.base, J.hok, rv, q⟩
 cases fl with
 | ret u =>
  obtain ⟨v, σ', H', J, rv, q⟩ := hs
  exact fin J rv q
 | next =>
  obtain ⟨σ', H', J, q⟩ := hs
  exact fin (v := V.non) (u := Value.none) J rfl q
 | brk =>
  obtain ⟨_, _, _, q⟩ := hs
  exact False.elim q
 | cont =>
  obtain ⟨_, _, _, q⟩ := hs
  exact False.elim q
end L2
namespace L2
open PySem PySem.Spec PyProof.Rows
section
variable {X : Cx} {x : Str} {p pos : Pos} {e : Expr} {es : List Expr} {t : TA} {id T : String} {r : List V → Hp → VK → Prop}
def tCB (r : List V → Hp → VK → Prop) (t : TA) : TE := fun σ H Q => t σ H fun vs H1 => r vs H1 Q
theorem pe_callB (hc : CallR X (.builtin id) r) (hg : Gl X x) (hm : X.mg x = none) (hv : bootBuiltins x = some (.builtin id)) (ha : PA X (e :: es) t) (hn : x ≠ "__name__" := by decide) (hdb : (x == ("__debug__" : Str)) = false := by decide)
  (he : starEach (e :: es) X.env = (false, eval e X.env) :: starEach es X.env := by rfl) (hpl : (backTo pos (starEach es X.env)).any (·.1) = false := by rfl) : PE X (.Call (.Name x p) (e :: es) [] pos) (tCB r t) := by
 intro pins s σ H Q I h
 refine wpAny_Call_Name_kw (ld_blt I hg hm hv ?_ hn hdb)
 exact PyProof.Rows.callWith_builtin1 (thn (ha pos pins s σ H _ I h) fun us s1 ⟨vs, H1, I1, r1, q1⟩ => hc pins s1 σ H1 vs us Q I1 r1 q1) he hpl
theorem pe_callTy (hc : CallR X (.type T) r) (hg : Gl X x) (hm : X.mg x = none) (hv : bootBuiltins x = some (.type T)) (ha : PA X (e :: es) t) (hn : x ≠ "__name__" := by decide) (hdb : (x == ("__debug__" : Str)) = false := by decide)
  (he : starEach (e :: es) X.env = (false, eval e X.env) :: starEach es X.env := by rfl) (hpl : (backTo pos (starEach es X.env)).any (·.1) = false := by rfl) : PE X (.Call (.Name x p) (e :: es) [] pos) (tCB r t) := by
 intro pins s σ H Q I h
 refine wpAny_Call_Name_kw (ld_blt I hg hm hv ?_ hn hdb)
 exact PyProof.Rows.callWith_type1 (thn (ha pos pins s σ H _ I h) fun us s1 ⟨vs, H1, I1, r1, q1⟩ => hc pins s1 σ H1 vs us Q I1 r1 q1) he hpl
end
end L2
namespace HT
open PySem PyProof.Rows
section
open PySem.SeqAt
open PySem.AutoSeq1 (wpAny_loadPart')
open PySem.MeetsSeq PySem.MeetsSeq2 PySem.MeetsSeq3
end
section
variable {prog : Program} {w : World} {A : Around} {E : Value → Shared → Prop} {s : Shared}
def sIx (n d : Nat) : Option Int → Nat
 | none => d
 | some v => if v < 0 then (v + (n : Int)).toNat else min v.toNat n
theorem sIx_none (n d : Nat) : sIx n d none = d := rfl
theorem sIx_nat (n d k : Nat) : sIx n d (some (k : Int)) = min k n := by
 show (if (k : Int) < 0 then ((k : Int) + (n : Int)).toNat else min (k : Int).toNat n) = min k n
 rw [if_neg (by omega), Int.toNat_natCast]
theorem sIx_le (n d : Nat) (hd : d ≤ n) (o : Option Int) : sIx n d o ≤ n := by
 cases o with
 | none => exact hd
 | some v =>
  show (if v < 0 then (v + (n : Int)).toNat else min v.toNat n) ≤ n
  by_cases hv : v < 0
  ·rw [if_pos hv]; omega
  ·rw [if_neg hv]; exact Nat.min_le_right _ _
theorem clip_eq (v : Int) (n d : Nat) : (if v < 0 then max (v + (n : Int)) 0 else min v (n : Int)) = ((sIx n d (some v) : Nat) : Int) := by
 show (if v < 0 then max (v + (n : Int)) 0 else min v (n : Int)) = (((if v < 0 then (v + (n : Int)).toNat else min v.toNat n) : Nat) : Int)
 by_cases hv : v < 0
 ·simp only [if_pos hv]; omega
 ·simp only [if_neg hv]; omega
theorem adjust_gen (lo hi : Option Int) (n : Nat) : Builtin.Slice.sliceAdjust lo hi 1 (n : Int) = (((sIx n 0 lo : Nat) : Int), ((sIx n n hi : Nat) : Int)) := by
 have h1 : ¬ ((1 : Int) < 0) := by omega
 unfold Builtin.Slice.sliceAdjust
 simp only [h1, if_false]
 refine Prod.ext ?_ ?_
 ·cases lo with
  | none => rfl
  | some v => exact clip_eq v n 0
 ·cases hi with
  | none => rfl
  | some v => exact clip_eq v n n
theorem places_gen (i j : Nat) : Builtin.Slice.slicePlaces (i : Int) (j : Int) 1 = j - i := by
 unfold Builtin.Slice.slicePlaces
 have h1 : (1 : Int) > 0 := by omega
 simp only [h1, if_true, Int.ediv_one]
 split <;> omega
theorem slicePart_ {v : Value} {o : Option Int} {Q : Option Int → Shared → Prop} (p : IsPart v o) (h : Q o s) : wpAny (model prog w) A (Builtin.Slice.slicePartIndex v) Q E s := by
 cases p with
 | none => exact slicePart_none h
 | int i t => exact slicePart_int h
theorem sliceApplied_gen {sl : Addr} {vl vu : Value} {lo hi : Option Int} {n : Nat} {Q : Int × Int × Nat → Shared → Prop} (hs : s.heap.IsSliceOf sl vl vu .none) (pl : IsPart vl lo) (pu : IsPart vu hi)
  (h : Q (((sIx n 0 lo : Nat) : Int), 1, sIx n n hi - sIx n 0 lo) s) : wpAny (model prog w) A (Builtin.Slice.sliceApplied (.ref sl) (pure (n : Int))) Q E s := by
 obtain ⟨os, hos, hcs, hds⟩ := id hs
 unfold Builtin.Slice.sliceApplied Builtin.Slice.sliceFields
 refine wpAny_bind (wpAny_bind (wpAny_field hos hds (x := vl) rfl (wpAny_bind (wpAny_field hos hds (x := vu) rfl (wpAny_bind (wpAny_field hos hds (x := .none) rfl (wpAny_pure ?_)))))))
 refine wpAny_bind (slicePart_none ?_)
 show wpAny _ _ (if ((1 : Int) == 0) = true then _ else _) _ _ s
 rw [if_neg (by decide)]
 refine wpAny_bind (slicePart_ pl (wpAny_bind (slicePart_ pu (wpAny_bind (wpAny_pure ?_)))))
 show wpAny _ _ (match Builtin.Slice.sliceAdjust lo hi 1 (n : Int) with | (lo, hi) => pure (lo, (1 : Int), Builtin.Slice.slicePlaces lo hi 1)) _ _ s
 rw [adjust_gen lo hi n]
 show wpAny _ _ (pure (((sIx n 0 lo : Nat) : Int), (1 : Int), Builtin.Slice.slicePlaces ((sIx n 0 lo : Nat) : Int) ((sIx n n hi : Nat) : Int) 1)) _ _ s
 rw [places_gen]
 exact wpAny_pure h
theorem pick_gen (xs : Array Value) (i k : Nat) : ((List.range k).filterMap fun (m : Nat) => xs[((i : Int) + (m : Int) * 1).toNat]?).toArray = ((xs.toList.drop i).take k).toArray := by
 have e : (fun (m : Nat) => xs[((i : Int) + (m : Int) * 1).toNat]?) = fun m => xs[i + m]? := by
  funext m
  have : ((i : Int) + (m : Int) * 1).toNat = i + m := by omega
  rw [this]
 rw [e]
 have := pick_run xs i k
 rw [List.filterMap_map] at this
 have e2 : ((fun x => xs[x]?) ∘ fun x => i + x) = fun m => xs[i + m]? := rfl
 rw [e2] at this
 rw [this]
theorem getItem_tuple_cut {t sl : Addr} {items : Array Value} {vl vu : Value} {lo hi : Option Int} {Q : Value → Shared → Prop} (ht : IsTup s.heap t items) (hs : s.heap.IsSliceOf sl vl vu .none) (pl : IsPart vl lo) (pu : IsPart vu hi)
  (hw : ¬ (sIx items.size 0 lo = 0 ∧ sIx items.size items.size hi = items.size))
  (h : Q (.ref s.heap.objs.size) { s with heap := s.heap.push { cls := .type "tuple", data := .seq ((items.toList.drop (sIx items.size 0 lo)).take (sIx items.size items.size hi - sIx items.size 0 lo)).toArray } })
  (hsz : items.size ≤ sizeLine) : wpAny (model prog w) A (getItem (.ref t) (.ref sl)) Q E s := by
 have htake : sizeOk (.seq ((items.toList.drop (sIx items.size 0 lo)).take (sIx items.size items.size hi - sIx items.size 0 lo)).toArray) := by
  show ((items.toList.drop (sIx items.size 0 lo)).take (sIx items.size items.size hi - sIx items.size 0 lo)).toArray.size ≤ sizeLine
  rw [List.size_toArray, List.length_take, List.length_drop, Array.length_toList]
  omega
 have hj : sIx items.size items.size hi ≤ items.size := sIx_le _ _ (Nat.le_refl _) hi
 obtain ⟨os, hos, hcs, hds⟩ := id hs
 have hTs : s.TypeIs (.ref sl) "slice" := ⟨os, hos, hcs⟩
 unfold getItem
 try with_reducible refine wpAny_holding ?_
 first | refine wpAny_bind (wpAny_pure ?_) | skip
 refine wpAny_bind (wpAny_sequenceKey ht.typeIs (by decide) ?_)
 refine wpAny_bind (wpAny_callSpecial?_slot (name := Str.ofString "__getitem__") ht.typeIs PyProof.Rows.slot_tuple_getitem
  (wpAny_call_entry PyProof.Rows.slot_tuple_getitem ht.typeIs entry_tuple_getitem ?_ (args_tuple_getitem _ _)))
 show wpAny _ _ (Builtin.Tuple.tupleItemsOf (.ref t) >>= _) _ _ s
 refine wpAny_bind (tupleItemsOf_ ht ?_)
 refine wpAny_bind (wpAny_typeOf hTs ?_)
 rw [if_pos (by decide)]
 refine wpAny_bind (sliceApplied_gen hs pl pu ?_)
 have hno : ¬ ((((sIx items.size 0 lo : Nat) : Int) == 0 && (1 : Int) == 1 && (sIx items.size items.size hi - sIx items.size 0 lo) == items.size) = true) := by
  intro q
  rw [Bool.and_eq_true, Bool.and_eq_true] at q
  have q1 : ((sIx items.size 0 lo : Nat) : Int) = 0 := eq_of_beq q.1.1
  have q2 : sIx items.size items.size hi - sIx items.size 0 lo = items.size := eq_of_beq q.2
  exact hw ⟨by omega, by omega⟩
 show wpAny _ _ (if (((sIx items.size 0 lo : Nat) : Int) == 0 && (1 : Int) == 1 && (sIx items.size items.size hi - sIx items.size 0 lo) == items.size) = true then _ else _) _ _ s
 rw [if_neg hno, pick_gen]
 first
  | exact wpAny_bind (m := Builtin.Tuple.tupleExact _) (wpAny_newObj_type (wpAny_pure ⟨_, rfl, wpAny_pure h⟩) htake)
  | exact wpAny_bind (m := Builtin.Tuple.tupleExact _) (wpAny_newObj_type (wpAny_bind (wpAny_pure (wpAny_pure ⟨_, rfl, wpAny_pure h⟩))) htake)
  | exact wpAny_bind (wpAny_bind (m := Builtin.Tuple.tupleExact _) (wpAny_newObj_type (wpAny_pure (wpAny_pure ⟨_, rfl, wpAny_pure h⟩)) htake))
  | exact wpAny_bind (wpAny_bind (m := Builtin.Tuple.tupleExact _) (wpAny_newObj_type (wpAny_pure ⟨_, rfl, wpAny_pure h⟩) htake))
end
end HT
namespace L2
open PySem PySem.Spec PyProof.Rows
abbrev TO := St → Hp → (Option Int → Hp → Prop) → Prop
def PO (X : Cx) (e : Option Expr) (t : TO) : Prop :=
 ∀ (pins : List (Addr × Obj)) (s : Shared) (σ : St) (H : Hp) (Q : Option Int → Hp → Prop), Inv X pins σ H s → t σ H Q →
  wpAny (model X.prog X.w) X.A (evalPart e X.env) (fun u s' => ∃ o H', Inv X pins σ H' s' ∧ IsPart u o ∧ Q o H') X.xe s
def tNoPart : TO := fun _ H Q => Q none H
def tPart (t : TE) : TO := fun σ H Q => t σ H fun x H1 => ∃ i, x = .int i ∧ Q (some i) H1
theorem intsAre_of {ns : List Int} : ∀ {us : List Value}, Vals (ns.map V.int) us → IntsAre us ns := by
 induction ns with
 | nil => intro us r; rw [List.map_nil] at r; cases r; exact .nil
 | cons n ns ih =>
  intro us r
  rw [List.map_cons] at r
  cases r with
  | cons r1 r2 =>
   obtain ⟨t, e⟩ := r1
   subst e
   exact .cons n t (ih r2)
section
variable {X : Cx} {e : Expr} {te : TE} {lo hi : Option Expr} {tl th : TO} {pos p2 : Pos}
theorem po_none : PO X none tNoPart := by
 intro pins s σ H Q I h
 rw [evalPart_none]
 exact wpAny_pure ⟨none, H, I, .none, h⟩
theorem po_some (h : PE X e te) : PO X (some e) (tPart te) := by
 intro pins s σ H Q I hw
 rw [evalPart_some]
 refine thn (h pins s σ H _ I hw) fun u s1 ⟨x, H1, I1, r1, q1⟩ => ?_
 obtain ⟨i, rfl, q⟩ := q1
 obtain ⟨t, rfl⟩ := r1
 exact ⟨some i, H1, I1, .int i t, q⟩
def SlR (X : Cx) (r : V → Option Int → Option Int → Hp → VK → Prop) : Prop :=
 ∀ (pins : List (Addr × Obj)) (s : Shared) (σ : St) (H : Hp) (x : V) (v vl vu : Value) (lo hi : Option Int) (sl : Addr) (Q : VK), Inv X pins σ H s → RelV x v → s.heap.IsSliceOf sl vl vu .none → IsPart vl lo → IsPart vu hi → r x lo hi H Q →
  ∃ T id, typeLookup (.type T) "__getitem__" = pure (some (.builtin id)) ∧ s.TypeIs v T ∧ wpAny (model X.prog X.w) X.A (getItem v (.ref sl)) (EP X pins σ Q) X.xe s
def tSl (r : V → Option Int → Option Int → Hp → VK → Prop) (te : TE) (tl th : TO) : TE := fun σ H Q => te σ H fun x H1 => tl σ H1 fun l H2 => th σ H2 fun u H3 => r x l u H3 Q
theorem pe_slice {r : V → Option Int → Option Int → Hp → VK → Prop} (hr : SlR X r) (he : PE X e te) (hl : PO X lo tl) (hu : PO X hi th) : PE X (.Subscript e (.Slice lo hi none p2) pos) (tSl r te tl th) := by
 intro pins s σ H Q I h
 refine Subscript_ (thn (he pins s σ H _ I h) fun v s1 ⟨x, H1, I1, r1, q1⟩ => ?_)
 refine wpAny_Slice (thn (hl pins s1 σ H1 _ I1 q1) fun vl s2 ⟨l, H2, I2, pl, q2⟩ => thn (hu pins s2 σ H2 _ I2 q2) fun vu s3 ⟨u, H3, I3, pu, q3⟩ => ?_)
 rw [evalPart_none]
 refine wpAny_pure ?_
 have I4 : Inv X pins σ H3 { s3 with heap := s3.heap.push { cls := .type "slice", data := .fields #[vl, vu, .none] } } := I3.kept (t' := s3.toks) fun b ob q => Heap.get?_push_of_some _ q
 obtain ⟨T, id, hT, ht, hg⟩ := hr pins { s3 with heap := s3.heap.push { cls := .type "slice", data := .fields #[vl, vu, .none] } } σ H3 x v vl vu l u s3.heap.objs.size Q I4 r1 (Heap.IsSliceOf.new ..) pl pu q3
 show wpAny (model X.prog X.w) X.A (subscriptTail e (.Slice lo hi none p2) v (.ref s3.heap.objs.size)) (EP X pins σ Q) X.xe { s3 with heap := s3.heap.push { cls := .type "slice", data := .fields #[vl, vu, .none] } }
 exact tail_any (ops := [.ref s3.heap.objs.size, v]) ht hT hg (by with_unfolding_all rfl)
def cutV (xs : List V) (lo hi : Option Int) : List V := (xs.drop (HT.sIx xs.length 0 lo)).take (HT.sIx xs.length xs.length hi - HT.sIx xs.length 0 lo)
theorem cutV_length (xs : List V) (lo hi : Option Int) : (cutV xs lo hi).length ≤ xs.length := by
 unfold cutV
 rw [List.length_take, List.length_drop]
 omega
end
end L2
namespace L2
open PySem PySem.Spec PyProof.Rows
def ixN (n : Nat) (i : Int) : Option Nat := if 0 ≤ i then (if i < n then some i.toNat else none) else if -(n : Int) ≤ i then some (i + n).toNat else none
def atI {α : Type} (xs : List α) (i : Int) : Option α := (ixN xs.length i).bind fun j => xs[j]?
theorem ixN_seq {n : Nat} {i : Int} {j : Nat} (h : ixN n i = some j) : seqIndex? i n = some j ∧ j < n ∧ -(n : Int) ≤ i ∧ i < n := by
 unfold ixN at h
 by_cases h0 : 0 ≤ i
 ·rw [if_pos h0] at h
  by_cases h1 : i < n
  ·rw [if_pos h1] at h
   have e : i.toNat = j := Option.some.inj h
   exact ⟨by rw [seqIndex_of h0 h1, e], by omega, by omega, h1⟩
  ·rw [if_neg h1] at h; cases h
 ·rw [if_neg h0] at h
  by_cases h1 : -(n : Int) ≤ i
  ·rw [if_pos h1] at h
   have e : (i + n).toNat = j := Option.some.inj h
   exact ⟨by rw [seqIndex_neg (by omega) h1, e], by omega, h1, by omega⟩
  ·rw [if_neg h1] at h; cases h
theorem atI_get {α : Type} {xs : List α} {i : Int} {v : α} (h : atI xs i = some v) : ∃ j, seqIndex? i xs.length = some j ∧ xs[j]? = some v ∧ j < xs.length ∧ -(xs.length : Int) ≤ i ∧ i < xs.length := by
 unfold atI at h
 cases e : ixN xs.length i with
 | none => rw [e] at h; cases h
 | some j =>
  rw [e] at h
  obtain ⟨h1, h2, h3, h4⟩ := ixN_seq e
  exact ⟨j, h1, h, h2, h3, h4⟩
theorem atI_nat {α : Type} {xs : List α} {j : Nat} {v : α} (h : xs[j]? = some v) : atI xs (j : Int) = some v := by
 have hj : j < xs.length := (List.getElem?_eq_some_iff.mp h).1
 have e : ixN xs.length (j : Int) = some j := by
  unfold ixN
  rw [if_pos (by omega), if_pos (by omega)]; simp
 unfold atI; rw [e]; exact h
def PlainIx (b : Expr) : Prop := ∀ o i, subscripted b false o i = operate [o, i] (getItem o i)
def IxR (X : Cx) (r : R2) : Prop :=
 ∀ (value slice : Expr) (pins : List (Addr × Obj)) (s : Shared) (σ : St) (H : Hp) (x y : V) (v u : Value) (Q : VK), Inv X pins σ H s → RelV x v → RelV y u → r x y H Q →
  subscripted slice false v u = operate [v, u] (getItem v u) → wpAny (model X.prog X.w) X.A (subscriptTail value slice v u) (EP X pins σ Q) X.xe s
def MtR (X : Cx) (id : String) (r : V → List V → Hp → VK → Prop) : Prop :=
 ∀ (pins : List (Addr × Obj)) (s : Shared) (σ : St) (H : Hp) (x : V) (xs : List V) (v : Value) (us : List Value) (Q : VK), Inv X pins σ H s → RelV x v → Vals xs us → r x xs H Q →
  wpAny (model X.prog X.w) X.A (call (.builtin id) (v :: us)) (EP X pins σ Q) X.xe s
section
variable {X : Cx} {a b : Expr} {ta tb : TE} {pos : Pos}
theorem pe_ix {r : R2} (hr : IxR X r) (ha : PE X a ta) (hb : PE X b tb) (hs : PlainIx b) : PE X (.Subscript a b pos) (tOp r ta tb) := by
 intro pins s σ H Q I h
 exact Subscript_ (binT ha hb I h fun v u s2 x y H2 I2 rx ry q => hr a b pins s2 σ H2 x y v u Q I2 rx ry q (hs _ _))
def rIxL (K : PySem.W.Frag) : R2 := fun x y H Q => ∃ p xs i v, x = .ref p ∧ y = .int i ∧ SqL K H p xs ∧ atI xs i = some v ∧ Q v H
def rIxT (K : PySem.W.Frag) : R2 := fun x y H Q => ∃ p xs i v, x = .ref p ∧ y = .int i ∧ SqT K H p xs ∧ atI xs i = some v ∧ Q v H
theorem ix_list : IxR X (rIxL X.K) := by
 intro value slice pins s σ H x y v u Q I rx ry h hs
 obtain ⟨p, xs, i, z, rfl, rfl, hq, he, q⟩ := h
 cases rx
 obtain ⟨t, rfl⟩ := ry
 obtain ⟨its, r, pl, hz⟩ := I.list hq
 obtain ⟨j, h1, h2, h3, h4, h5⟩ := atI_get he
 obtain ⟨w, ew, rw'⟩ := r.get h2
 have hl := r.length
 have hn := line63
 have fin : EP X pins σ Q w s := ⟨z, H, I, rw', q⟩
 by_cases h0 : 0 ≤ i
 ·have hj : i.toNat = j := by
   rw [seqIndex_of h0 h5] at h1
   exact Option.some.inj h1
  exact item_listR pl.isList h0 (by omega) (by rw [hj]; simpa using ew) fin hs
 ·have hj : (i + (its.toArray.size : Int)).toNat = j := by
   rw [seqIndex_neg (by omega) h4] at h1
   rw [List.size_toArray, ← hl]
   exact Option.some.inj h1
  exact subscriptTail_builtinR (x := w) pl.isList.typeIs slot_list_getitem.lookup
   (wpAny_getItem_list_neg (Q := fun r s' => r = w ∧ EP X pins σ Q r s') pl.isList (by omega) (by rw [List.size_toArray] <;> omega) (by omega) (by rw [hj]; simpa using ew) ⟨rfl, fin⟩) hs
theorem ix_tup : IxR X (rIxT X.K) := by
 intro value slice pins s σ H x y v u Q I rx ry h hs
 obtain ⟨p, xs, i, z, rfl, rfl, hq, he, q⟩ := h
 cases rx
 obtain ⟨t, rfl⟩ := ry
 obtain ⟨its, r, pl, hz⟩ := I.tuple hq
 obtain ⟨j, h1, h2, h3, h4, h5⟩ := atI_get he
 obtain ⟨w, ew, rw'⟩ := r.get h2
 have hl := r.length
 have hn := line63
 have fin : EP X pins σ Q w s := ⟨z, H, I, rw', q⟩
 exact subscriptTail_builtinR (x := w) pl.typeIs slot_tuple_getitem.lookup
  (getItem_tuple (j := j) (Q := fun r s' => r = w ∧ EP X pins σ Q r s') pl (by omega) (by omega) (by rw [List.size_toArray, ← hl]; exact h1) (by simpa using ew) ⟨rfl, fin⟩) hs
theorem mapSeq_set (its : List Value) (n j : Nat) (u : Value) : Obj.mapSeq (·.setIfInBounds j u) { cls := .type "list", data := .seq its.toArray n } = { cls := .type "list", data := .seq (its.set j u).toArray n } := by
 simp [Obj.mapSeq]
theorem Inv.lst {pins : List (Addr × Obj)} {σ : St} {H : Hp} {s : Shared} {p : Addr} {xs : List V} (I : Inv X pins σ H s) (h : H p = some (.lst xs)) :
  ∃ (its : List Value) (n : Nat), Vals xs its ∧ s.heap.get? p = some { cls := .type "list", data := .seq its.toArray n } ∧ xs.length ≤ sizeLine := by
 obtain ⟨z, its, n, r, e⟩ := I.hok p _ h
 exact ⟨its, n, r, e, z⟩
theorem Inv.lstUpd {pins : List (Addr × Obj)} {σ : St} {H : Hp} {s : Shared} {p : Addr} {xs ys : List V} {its its' : List Value} {n n' : Nat} {f : Obj → Obj} (I : Inv X pins σ H s) (h : H p = some (.lst xs))
  (ho : s.heap.get? p = some { cls := .type "list", data := .seq its.toArray n }) (hf : f { cls := .type "list", data := .seq its.toArray n } = { cls := .type "list", data := .seq its'.toArray n' }) (r : Vals ys its') (hz : ys.length ≤ sizeLine) (t : Nat) :
  Inv X pins σ (upd H p (.lst ys)) { s with heap := s.heap.update p f, toks := t } := by
 have e : (s.heap.update p f).get? p = some { cls := .type "list", data := .seq its'.toArray n' } := by
  rw [Heap.get?_update_self f ho (by rw [hf] <;> rfl), hf]
 refine I.write (x := p) (e := p) (by rw [h]; trivial) (.inl rfl) (fun b u hb q => (Heap.get?_update_other _ _ (Ne.symm hb)).trans q) ⟨_, e⟩ ?_
 exact ⟨hz, its', n', r, e⟩
def rSetL : V → V → V → Hp → (Hp → Prop) → Prop := fun o i v H Q => ∃ p xs k j, o = .ref p ∧ i = .int k ∧ H p = some (.lst xs) ∧ ixN xs.length k = some j ∧ Q (upd H p (.lst (xs.set j v)))
theorem set_list : PSet X rSetL := by
 intro pins s σ H o i v ov iv u Q I ro ri rv h
 obtain ⟨p, xs, k, j, rfl, rfl, hp, hj, q⟩ := h
 cases ro
 obtain ⟨t, rfl⟩ := ri
 obtain ⟨its, n, r, ho, hz⟩ := I.lst hp
 obtain ⟨h1, h2, h3, h4⟩ := ixN_seq hj
 have hl := r.length
 have hn := line63
 have I' : Inv X pins σ (upd H p (.lst (xs.set j v))) { s with heap := s.heap.update p (Obj.mapSeq (·.setIfInBounds j u)) } :=
  I.lstUpd hp ho (mapSeq_set its n j u) (r.set rv j) (by rw [List.length_set]; exact hz) s.toks
 by_cases h0 : 0 ≤ k
 ·have hk : k.toNat = j := by
   rw [seqIndex_of h0 h4] at h1
   exact Option.some.inj h1
  exact PySem.W.ki_setAt ho h0 (by omega) (by rw [List.size_toArray, ← hl]; exact h4) (by rw [hk]; exact ⟨_, I', q⟩)
 ·have hk : (k + (its.toArray.size : Int)).toNat = j := by
   rw [seqIndex_neg (by omega) h3] at h1
   rw [List.size_toArray, ← hl]
   exact Option.some.inj h1
  exact PySem.W.ki_setBack ho (by omega) (by rw [List.size_toArray, ← hl]; exact h3) (by omega) (by rw [hk]; exact ⟨_, I', q⟩)
theorem slice_bounds (lo hi : Option Int) (n : Nat) : (sliceBounds lo hi none n).1 = ((HT.sIx n 0 lo : Nat) : Int) ∧ (sliceBounds lo hi none n).2.1 = ((HT.sIx n n hi : Nat) : Int) ∧ (sliceBounds lo hi none n).2.2 = 1 := by
 refine ⟨?_, ?_, rfl⟩
 ·cases lo with
  | none => simp [sliceBounds, HT.sIx]
  | some i =>
   simp only [sliceBounds, HT.sIx, Option.getD_none, show (1 : Int) > 0 by decide, if_true]
   by_cases h : i < 0
   ·simp only [h, if_true] <;> omega
   ·simp only [h, if_false] <;> omega
 ·cases hi with
  | none => simp [sliceBounds, HT.sIx]
  | some i =>
   simp only [sliceBounds, HT.sIx, Option.getD_none, show (1 : Int) > 0 by decide, if_true]
   by_cases h : i < 0
   ·simp only [h, if_true] <;> omega
   ·simp only [h, if_false] <;> omega
theorem slicePick_cut (its : List Value) (lo hi : Option Int) : slicePick its.toArray lo hi none = ((its.drop (HT.sIx its.length 0 lo)).take (HT.sIx its.length its.length hi - HT.sIx its.length 0 lo)).toArray := by
 obtain ⟨h1, h2, h3⟩ := slice_bounds lo hi its.toArray.size
 unfold slicePick
 rw [h1, h2, h3]
 simp only [sliceRange_one, pick_run, List.size_toArray] <;> rfl
def rSlL (K : PySem.W.Frag) : V → Option Int → Option Int → Hp → VK → Prop := fun x lo hi H Q => ∃ a xs, x = .ref a ∧ SqL K H a xs ∧ ∀ p, H p = none → Q (.ref p) (upd H p (.lst (cutV xs lo hi)))
theorem sl_list : SlR X (rSlL X.K) := by
 intro pins s σ H x v vl vu lo hi sl Q I rx hs pl pu h
 obtain ⟨a, xs, rfl, hx, q⟩ := h
 cases rx
 obtain ⟨its, r, ht, hz⟩ := I.list hx
 have hlen := r.length
 refine ⟨"list", _, slot_list_getitem.lookup, ht.isList.typeIs, ?_⟩
 refine wpAny_getItem_list_slice ht.isList hs pl pu .none (by simp) ?_ (by rw [List.size_toArray] <;> omega)
 rw [slicePick_cut, ← hlen]
 refine ⟨.ref s.heap.objs.size, _, I.laid (t' := s.toks) (o := .lst (cutV xs lo hi)) (fun b ob q => Heap.get?_push_of_some _ q) (Nat.le_refl _) ?_, rfl, q _ (I.hok.fresh (Nat.le_refl _))⟩
 exact ⟨Nat.le_trans (cutV_length xs lo hi) hz, _, 0, (r.drop (HT.sIx xs.length 0 lo)).take (HT.sIx xs.length xs.length hi - HT.sIx xs.length 0 lo), Heap.get?_push_size _ rfl⟩
def flatV : V → Bool
 | .non => true
 | .bl _ => true
 | .int _ => true
 | .str _ => true
 | _ => false
def eqV : V → V → Bool
 | .non, .non => true
 | .bl a, .bl b => a == b
 | .bl a, .int b => (if a then 1 else 0) == b
 | .int a, .bl b => a == (if b then 1 else 0)
 | .int a, .int b => a == b
 | .str a, .str b => a == b
 | _, _ => false
theorem eqAt_V {A : Around} {s : Shared} {y x : V} {u v : Value} (ry : RelV y u) (rx : RelV x v) (fy : flatV y = true) (fx : flatV x = true) : SeqAt.EqAt A s u v (eqV y x) := by
 cases y with
 | non =>
  cases ry
  cases x with
  | non => cases rx; exact SeqAt.EqAt.same _
  | bl b => cases rx; exact SeqAt.EqAt.none_bool b
  | int b => obtain ⟨t, rfl⟩ := rx; exact SeqAt.EqAt.none_int b t
  | str b => obtain ⟨t, rfl⟩ := rx; exact SeqAt.EqAt.none_str b t
  | _ => exact absurd (show false = true from fx) Bool.false_ne_true
 | bl a =>
  cases ry
  cases x with
  | non => cases rx; exact SeqAt.EqAt.bool_none a
  | bl b => cases rx; exact SeqAt.EqAt.bool_bool a b
  | int b => obtain ⟨t, rfl⟩ := rx; exact SeqAt.EqAt.bool_int a b t
  | str b => obtain ⟨t, rfl⟩ := rx; exact SeqAt.EqAt.bool_str a b t
  | _ => exact absurd (show false = true from fx) Bool.false_ne_true
 | int a =>
  obtain ⟨t', rfl⟩ := ry
  cases x with
  | non => cases rx; exact SeqAt.EqAt.int_none a t'
  | bl b => cases rx; exact SeqAt.EqAt.int_bool a t' b
  | int b => obtain ⟨t, rfl⟩ := rx; exact SeqAt.EqAt.int_int a t' b t
  | str b => obtain ⟨t, rfl⟩ := rx; exact SeqAt.EqAt.int_str a t' b t
  | _ => exact absurd (show false = true from fx) Bool.false_ne_true
 | str a =>
  obtain ⟨t', rfl⟩ := ry
  cases x with
  | non => cases rx; exact SeqAt.EqAt.str_none a t'
  | bl b => cases rx; exact SeqAt.EqAt.str_bool a t' b
  | int b => obtain ⟨t, rfl⟩ := rx; exact SeqAt.EqAt.str_int a t' b t
  | str b => obtain ⟨t, rfl⟩ := rx; exact SeqAt.EqAt.str_str a t' b t
  | _ => exact absurd (show false = true from fx) Bool.false_ne_true
 | _ => exact absurd (show false = true from fy) Bool.false_ne_true
def eqU (x : V) (u : Value) : Bool := match u with
 | .none => eqV .non x
 | .bool b => eqV (.bl b) x
 | .int i _ => eqV (.int i) x
 | .str z _ => eqV (.str z) x
 | _ => false
theorem eqU_of {x y : V} {u : Value} (r : RelV y u) (f : flatV y = true) : eqU x u = eqV y x := by
 cases y with
 | non => cases r; rfl
 | bl b => cases r; rfl
 | int i => obtain ⟨t, rfl⟩ := r; rfl
 | str z => obtain ⟨t, rfl⟩ := r; rfl
 | _ => exact absurd (show false = true from f) Bool.false_ne_true
theorem any_eqU {x : V} : ∀ {xs : List V} {us : List Value}, Vals xs us → xs.all flatV = true → us.any (eqU x) = xs.any fun y => eqV y x
 | _, _, .nil, _ => rfl
 | y :: xs, u :: us, .cons r t, f => by
  rw [List.all_cons, Bool.and_eq_true] at f
  rw [List.any_cons, List.any_cons, eqU_of r f.1, any_eqU t f.2]
theorem mem_eqAt {A : Around} {s : Shared} {x : V} {v : Value} (rx : RelV x v) (fx : flatV x = true) : ∀ {xs : List V} {us : List Value}, Vals xs us → xs.all flatV = true → ∀ u ∈ us, SeqAt.EqAt A s u v (eqU x u)
 | _, _, .nil, _ => fun u hu => by cases hu
 | y :: xs, u :: us, .cons r t, f => fun u' hu => by
  rw [List.all_cons, Bool.and_eq_true] at f
  rcases List.mem_cons.mp hu with rfl | hu
  ·rw [eqU_of r f.1]; exact eqAt_V r rx f.1 fx
  ·exact mem_eqAt rx fx t f.2 u' hu
def inV (x : V) (xs : List V) : Bool := xs.any fun y => eqV y x
def rIn (K : PySem.W.Frag) (neg : Bool) : R2 := fun x y H Q => ∃ p xs, y = .ref p ∧ (SqL K H p xs ∨ SqT K H p xs) ∧ flatV x = true ∧ xs.all flatV = true ∧ Q (.bl (if neg then !inV x xs else inV x xs)) H
theorem op_notIn_seq : OpR X (compareOp .NotIn) (rIn X.K true) := by
 intro pins s σ H x y v u Q I rx ry h
 obtain ⟨p, xs, rfl, hq, fx, fs, q⟩ := h
 cases ry
 rcases hq with hq | hq
 ·obtain ⟨its, r, pl, hz⟩ := I.list hq
  refine SeqAt.notIn_listAt (eqU x) pl.isList (fun w hw => mem_eqAt rx fx r fs w (by simpa using hw)) ⟨.bl _, H, I, rfl, ?_⟩
  rw [show its.toArray.any (eqU x) = its.any (eqU x) by simp, any_eqU r fs]
  exact q
 ·obtain ⟨its, r, pl, hz⟩ := I.tuple hq
  refine SeqAt.notIn_tupleAt (eqU x) pl (fun w hw => mem_eqAt rx fx r fs w (by simpa using hw)) ⟨.bl _, H, I, rfl, ?_⟩
  rw [show its.toArray.any (eqU x) = its.any (eqU x) by simp, any_eqU r fs]
  exact q
theorem call_len_seq : CallR X (.builtin "len") (fun xs H Q => ∃ p ys, xs = [.ref p] ∧ (SqL X.K H p ys ∨ SqT X.K H p ys) ∧ Q (.int ys.length) H) := by
 intro pins s σ H xs us Q I r h
 obtain ⟨p, ys, rfl, hq, q⟩ := h
 obtain ⟨u, rfl, rx⟩ := vals1 r
 cases rx
 have hn := line63
 rcases hq with hq | hq
 ·obtain ⟨its, r', pl, hz⟩ := I.list hq
  have hlen := r'.length
  exact Calls.call_len_list pl.isList (by simp only [List.size_toArray] <;> omega) ⟨.int ys.length, H, I.tok _, ⟨s.toks + 1, by rw [List.size_toArray, hlen]⟩, q⟩
 ·obtain ⟨its, r', pl, hz⟩ := I.tuple hq
  have hlen := r'.length
  exact len_tuple pl (by simp only [List.size_toArray] <;> omega) ⟨.int ys.length, H, I.tok _, ⟨s.toks + 1, by rw [List.size_toArray, hlen]⟩, q⟩
theorem call_list_of : CallR X (.type "list") (fun xs H Q => ∃ p ys, xs = [.ref p] ∧ (SqL X.K H p ys ∨ SqT X.K H p ys) ∧ ∀ l, H l = none → Q (.ref l) (upd H l (.lst ys))) := by
 intro pins s σ H xs us Q I r h
 obtain ⟨p, ys, rfl, hq, q⟩ := h
 obtain ⟨u, rfl, rx⟩ := vals1 r
 cases rx
 have fin : ∀ (its : List Value), Vals ys its → ys.length ≤ sizeLine → ∀ (h' : Heap) (c' : Nat), (∀ b o', s.heap.get? b = some o' → h'.get? b = some o') →
   h'.get? s.heap.objs.size = some { cls := .type "list", dict := none, data := .seq its.toArray c', slots := #[] } → EP X pins σ Q (.ref s.heap.objs.size) { s with heap := h' } := fun its r' hz h' c' kp e =>
  ⟨.ref s.heap.objs.size, _, I.laid (t' := s.toks) kp (Nat.le_refl _) (show ObjOk X.prog X.w _ h' _ (.lst ys) from ⟨hz, its, c', r', e⟩), rfl, q _ (I.hok.fresh (Nat.le_refl _))⟩
 rcases hq with hq | hq
 ·obtain ⟨its, r', pl, hz⟩ := I.list hq
  have hlen := r'.length
  obtain ⟨o, ho, hc, n, hd⟩ := pl.isList
  exact call_list_seq p (.inl rfl) ho hc hd (fun h' c' kp e => fin its r' hz h' c' kp e) (by simp only [List.size_toArray] <;> omega)
 ·obtain ⟨its, r', pl, hz⟩ := I.tuple hq
  have hlen := r'.length
  obtain ⟨o, ho, hc, n, hd⟩ := pl
  exact call_list_seq p (.inr rfl) ho hc hd (fun h' c' kp e => fin its r' hz h' c' kp e) (by simp only [List.size_toArray] <;> omega)
theorem call_tuple_of : CallR X (.type "tuple") (fun xs H Q => ∃ p ys, xs = [.ref p] ∧ ((SqL X.K H p ys ∧ ∀ l, H l = none → Q (.ref l) (upd H l (.tup ys))) ∨ (SqT X.K H p ys ∧ Q (.ref p) H))) := by
 intro pins s σ H xs us Q I r h
 obtain ⟨p, ys, rfl, h⟩ := h
 obtain ⟨u, rfl, rx⟩ := vals1 r
 cases rx
 rcases h with ⟨hq, q⟩ | ⟨hq, q⟩
 ·obtain ⟨its, r', pl, hz⟩ := I.list hq
  have hlen := r'.length
  refine call_tuple_list pl.isList (fun h' kp => ?_) (by simp only [List.size_toArray] <;> omega)
  have I1 : Inv X pins σ H { s with heap := h' } := I.kept (t' := s.toks) kp
  have I2 : Inv X pins σ (upd H h'.objs.size (.tup ys)) { s with heap := h'.push { cls := .type "tuple", data := .seq its.toArray } } :=
   I1.laid (t' := s.toks) (fun b o e => Heap.get?_push_of_some _ e) (Nat.le_refl _) (show ObjOk X.prog X.w _ _ _ (.tup ys) from ⟨hz, its, r', IsTup.new _ _⟩)
  exact ⟨.ref h'.objs.size, _, I2, rfl, q _ (I1.hok.fresh (Nat.le_refl _))⟩
 ·obtain ⟨its, r', pl, hz⟩ := I.tuple hq
  exact call_tuple_same pl ⟨.ref p, H, I, rfl, q⟩
def tyV (K : PySem.W.Frag) (T : String) (x : V) (H : Hp) : Prop := match x with
 | .str _ => T = "str"
 | .int _ => T = "int"
 | .ref p => (T = "list" ∧ ∃ xs, SqL K H p xs) ∨ (T = "tuple" ∧ ∃ o, K.lookup p = some o ∧ o.cls = .type "tuple" ∧ o.dict = none) ∨
   (T = "dict" ∧ ((∃ kvs, H p = some (.dK kvs)) ∨ ∃ kvs, H p = some (.dT kvs))) ∨ (T = "set" ∧ ∃ S n, H p = some (.set S n))
 | _ => False
theorem tyV_is {pins : List (Addr × Obj)} {σ : St} {H : Hp} {s : Shared} {T : String} {x : V} {v : Value} (I : Inv X pins σ H s) (r : RelV x v) (ty : tyV X.K T x H) :
  s.TypeIs v T ∧ ∀ a, v = .ref a → ∃ ob, s.heap.get? a = some ob ∧ ob.dict = none := by
 cases x with
 | str z =>
  obtain ⟨t, rfl⟩ := r
  cases (show T = "str" from ty)
  exact ⟨typeIs_str s z t, fun _ e => nomatch e⟩
 | int i =>
  obtain ⟨t, rfl⟩ := r
  cases (show T = "int" from ty)
  exact ⟨typeIs_int s i t, fun _ e => nomatch e⟩
 | ref p =>
  cases r
  rcases ty with ⟨rfl, xs, hq⟩ | ⟨rfl, o, hk, hc, hd⟩ | ⟨rfl, hk⟩ | ⟨rfl, S, n, hk⟩
  ·obtain ⟨its, _, pl, _⟩ := I.list hq
   refine ⟨pl.isList.typeIs, fun a e => ?_⟩
   cases e
   obtain ⟨o, n, e, c, hd, _⟩ := pl
   exact ⟨o, e, hd⟩
  ·refine ⟨⟨o, I.kIn p o hk, hc⟩, fun a e => ?_⟩
   cases e
   exact ⟨o, I.kIn _ o hk, hd⟩
  ·have z : ∃ o, s.heap.get? p = some o ∧ o.ExactDict := by
    rcases hk with ⟨kvs, hk⟩ | ⟨kvs, hk⟩
    ·obtain ⟨_, _, _, _, o, _, _, e, ex, _⟩ := I.hok p _ hk
     exact ⟨o, e, ex⟩
    ·obtain ⟨_, _, _, _, o, _, _, e, ex, _⟩ := I.hok p _ hk
     exact ⟨o, e, ex⟩
   obtain ⟨o, e, ex⟩ := z
   refine ⟨⟨o, e, ex.1⟩, fun a e2 => ?_⟩
   cases e2
   exact ⟨o, e, ex.2.1⟩
  ·obtain ⟨o, _, _, _, e, ex, _⟩ := I.hok p _ hk
   refine ⟨⟨o, e, ex.1⟩, fun a e2 => ?_⟩
   cases e2
   exact ⟨o, e, ex.2.1⟩
 | _ => exact False.elim ty
def tBM (K : PySem.W.Frag) (T : String) (r : V → List V → Hp → VK → Prop) (to : TE) (t : TA) : TE := fun σ H Q => to σ H fun x H1 => tyV K T x H1 ∧ t σ H1 fun xs H2 => r x xs H2 Q
variable {o e : Expr} {es : List Expr} {to : TE} {t : TA} {name : Str} {apos cpos : Pos} {T id : String} {r : V → List V → Hp → VK → Prop}
theorem pe_bm (pa : PlainAttrs T) (slot : Slot T name id) (hty : typeOf (.builtin id) = pure (.type "method_descriptor")) (hm : MtR X id r) (ho : PE X o to) (ha : PA X (e :: es) t)
  (hbase : attributeBase o name X.env (eval o X.env) = eval o X.env := by rfl)
  (hfew : ((backTo cpos (starEach (e :: es) X.env)).all (fun x => !x.1) && (backToKw cpos (keywordEach [] X.env)).all (fun x => x.1.isSome)
   && decide ((e :: es).length + ([] : List Keyword).length + (if ([] : List Keyword).isEmpty then 0 else 1) < 30)) = true := by rfl)
  (hline : (apos.endLine == cpos.line) = true := by rfl) (hs : starEach (e :: es) X.env = (false, eval e X.env) :: starEach es X.env := by rfl) (hplain : (backTo cpos (starEach es X.env)).any (·.1) = false := by rfl) :
  PE X (.Call (.Attribute o name apos) (e :: es) [] cpos) (tBM X.K T r to t) := by
 intro pins s σ H Q I h
 refine wpAny_Call_method_late hbase hfew hline rfl (thn (ho pins s σ H _ I h) fun v s1 ⟨x, H1, I1, r1, ty, q1⟩ => ?_)
 obtain ⟨h1, h2⟩ := tyV_is I1 r1 ty
 refine ⟨T, id, pa, slot, hty, h1, h2, ?_⟩
 have hA := ha cpos pins s1 σ H1 _ I1 q1
 rw [hs] at hA ⊢
 refine Calls.callWith_builtin (by show (false || (backTo cpos (starEach es X.env)).any (·.1)) = false; rw [hplain] <;> rfl) (Calls.evalArgs_plain ?_)
 exact thn hA fun us s2 ⟨vs, H2, I2, r2, q2⟩ => hm pins s2 σ H2 x vs v us Q I2 r1 r2 q2
end
end L2
namespace L2
open PySem PySem.Spec PyProof.Rows
def MtM (X : Cx) (id : String) (r : V → List V → Hp → VK → Prop) : Prop :=
 ∀ (pins : List (Addr × Obj)) (s : Shared) (σ : St) (H : Hp) (x : V) (xs : List V) (v : Value) (us : List Value) (Q : VK), Inv X pins σ H s → RelV x v → Vals xs us → r x xs H Q →
  wpAny (model X.prog X.w) X.A (call (.builtin id) (v :: us)) (EP X pins σ Q) X.xe s
theorem Vals.one : ∀ {x : V} {us : List Value}, Vals [x] us → ∃ u, us = [u] ∧ RelV x u
 | _, _, .cons r .nil => ⟨_, rfl, r⟩
theorem Vals.two : ∀ {x y : V} {us : List Value}, Vals [x, y] us → ∃ u v, us = [u, v] ∧ RelV x u ∧ RelV y v
 | _, _, _, .cons r (.cons q .nil) => ⟨_, _, rfl, r, q⟩
theorem Vals.dropLast {xs : List V} {us : List Value} (h : Vals xs us) : Vals xs.dropLast us.dropLast := by
 induction h with
 | nil => exact .nil
 | cons r t ih =>
  cases t with
  | nil => exact .nil
  | cons q t' => exact .cons r ih
theorem Vals.reverse {xs : List V} {us : List Value} (h : Vals xs us) : Vals xs.reverse us.reverse := by
 induction h with
 | nil => exact .nil
 | cons r t ih => rw [List.reverse_cons, List.reverse_cons]; exact Vals.append ih (.cons r .nil)
theorem Vals.rep {xs : List V} {us : List Value} (h : Vals xs us) : ∀ k : Nat, Vals (List.replicate k xs).flatten (List.replicate k us).flatten
 | 0 => .nil
 | k + 1 => by
  rw [List.replicate_succ, List.replicate_succ, List.flatten_cons, List.flatten_cons]
  exact Vals.append h (Vals.rep h k)
theorem foldl_rep (its : List Value) : ∀ (k : Nat) (acc : List Value),
  List.foldl (fun x1 x2 => x1 ++ x2) acc.toArray (List.replicate k its.toArray) = (acc ++ (List.replicate k its).flatten).toArray
 | 0, acc => by simp
 | k + 1, acc => by
  have e : acc.toArray ++ its.toArray = (acc ++ its).toArray := by simp
  have e2 : (acc ++ its) ++ (List.replicate k its).flatten = acc ++ (List.replicate (k + 1) its).flatten := by
   rw [List.replicate_succ, List.flatten_cons, List.append_assoc]
  rw [← e2, ← foldl_rep its k (acc ++ its), ← e, List.replicate_succ, List.foldl_cons]
section
variable {X : Cx} {pins : List (Addr × Obj)} {σ : St} {H : Hp} {s : Shared} {l b : Addr} {xs ys zs : List V}
theorem Inv.lset {its its' : List Value} {n : Nat} {f : Array Value → Array Value} {t' : Nat} (I : Inv X pins σ H s) (hH : H l = some (.lst xs))
  (e : s.heap.get? l = some { cls := .type "list", data := .seq its.toArray n }) (hf : f its.toArray = its'.toArray) (hv : Vals ys its') (hz : ys.length ≤ sizeLine) :
  Inv X pins σ (upd H l (.lst ys)) { s with heap := s.heap.update l (Obj.mapSeq f), toks := t' } := by
 have q := PySem.IsL.update e f
 rw [hf] at q
 refine I.write (x := l) (e := l) (by rw [hH]; exact trivial) (.inl rfl) (fun b' u hb hu => (Heap.get?_update_other s.heap (Obj.mapSeq f) (Ne.symm hb)).trans hu) ⟨_, q⟩ ?_
 exact ⟨hz, its', _, hv, q⟩
theorem Inv.lnew {its : List Value} {t' : Nat} (I : Inv X pins σ H s) (hv : Vals ys its) (hz : ys.length ≤ sizeLine) :
  Inv X pins σ (upd H s.heap.objs.size (.lst ys)) { s with heap := s.heap.push { cls := .type "list", data := .seq its.toArray }, toks := t' } :=
 I.laid (fun _ _ q => Heap.get?_push_of_some _ q) (Nat.le_refl _) ⟨hz, its, 0, hv, Heap.get?_push_size _ rfl⟩
theorem Inv.fresh (I : Inv X pins σ H s) : H s.heap.objs.size = none := I.hok.fresh (Nat.le_refl _)
theorem Inv.lstM (I : Inv X pins σ H s) (hH : H l = some (.lst xs)) : xs.length ≤ sizeLine ∧ ∃ (its : List Value) (n : Nat), Vals xs its ∧ xs.length = its.length ∧ s.heap.get? l = some { cls := .type "list", data := .seq its.toArray n } := by
 obtain ⟨z, its, n, r, e⟩ := I.hok l _ hH
 exact ⟨z, its, n, r, r.length, e⟩
theorem notLongL {n : Nat} (h : n ≤ sizeLine) : Builtin.List.listTooLong n = false := by
 unfold Builtin.List.listTooLong
 exact decide_eq_false (by omega)
end
section
variable {X : Cx}
def rAppend : V → List V → Hp → VK → Prop := fun x vs H Q => ∃ l xs y, x = .ref l ∧ vs = [y] ∧ H l = some (.lst xs) ∧ xs.length < sizeLine ∧ Q .non (upd H l (.lst (xs ++ [y])))
theorem mt_append : MtM X "list.append" rAppend := by
 intro pins s σ H x vs v us Q I rx rv h
 obtain ⟨l, xs, y, rfl, rfl, hH, hz, q⟩ := h
 cases rx
 obtain ⟨u, rfl, ru⟩ := rv.one
 obtain ⟨z, its, n, r, hl, e⟩ := I.lstM hH
 refine call_meets F.slot_list_append ⟨_, e, rfl⟩ F.entry_list_append (F.args_list_append_2 _ _) (PySem.list_append l its.toArray n u (by rw [List.size_toArray]; omega)) ⟨e, ?_⟩
 refine ⟨.non, _, I.lset (its' := its ++ [u]) hH e (by simp) (r.append (.cons ru .nil)) ?_, rfl, q⟩
 rw [List.length_append, List.length_singleton]
 omega
def rExtend : V → List V → Hp → VK → Prop := fun x vs H Q => ∃ l b xs zs, x = .ref l ∧ vs = [.ref b] ∧ H l = some (.lst xs) ∧ H b = some (.lst zs) ∧ xs.length + zs.length ≤ sizeLine ∧ Q .non (upd H l (.lst (xs ++ zs)))
theorem mt_extend : MtM X "list.extend" rExtend := by
 intro pins s σ H x vs v us Q I rx rv h
 obtain ⟨l, b, xs, zs, rfl, rfl, hH, hB, hz, q⟩ := h
 cases rx
 obtain ⟨u, rfl, ru⟩ := rv.one
 cases ru
 obtain ⟨z, its, n, r, hl, e⟩ := I.lstM hH
 obtain ⟨z2, its2, n2, r2, hl2, e2⟩ := I.lstM hB
 have hsz : its.toArray.size + its2.toArray.size ≤ sizeLine := by rw [List.size_toArray, List.size_toArray]; omega
 have hlong : ¬ (!its.toArray.isEmpty && Builtin.List.listTooLong (its.toArray.size + its2.toArray.size)) = true := by
  rw [notLongL hsz, Bool.and_false]
  exact Bool.false_ne_true
 refine call_meets F.slot_list_extend ⟨_, e, rfl⟩ F.entry_list_extend (F.args_list_extend_2 _ _)
  (AutoSeq1.list_extend_list_list_0 l its.toArray n b its2.toArray n2 hlong (by rw [List.size_toArray]; omega) (by omega)) ⟨e, e2, ?_⟩
 refine ⟨.non, _, I.lset (its' := its ++ its2) hH e (by simp) (r.append r2) ?_, rfl, q⟩
 rw [List.length_append]
 omega
def rCat : R2 := fun x y H Q => ∃ l b xs zs, x = .ref l ∧ y = .ref b ∧ H l = some (.lst xs) ∧ H b = some (.lst zs) ∧ xs.length + zs.length ≤ sizeLine ∧ ∀ p, H p = none → Q (.ref p) (upd H p (.lst (xs ++ zs)))
theorem op_cat : OpR X (binaryOp .Add) rCat := by
 intro pins s σ H x y v u Q I rx ry h
 obtain ⟨l, b, xs, zs, rfl, rfl, hH, hB, hz, q⟩ := h
 cases rx
 cases ry
 obtain ⟨z, its, n, r, hl, e⟩ := I.lstM hH
 obtain ⟨z2, its2, n2, r2, hl2, e2⟩ := I.lstM hB
 refine PySem.P.add_list e e2 ?_ (by rw [List.size_toArray, List.size_toArray]; omega)
 have ea : its.toArray ++ its2.toArray = (its ++ its2).toArray := by simp
 rw [ea]
 exact ⟨.ref _, _, I.lnew (t' := s.toks) (r.append r2) (by rw [List.length_append]; omega), rfl, q _ I.fresh⟩
def rRep : R2 := fun x y H Q => ∃ l k xs, x = .ref l ∧ y = .int k ∧ H l = some (.lst xs) ∧ -(2 ^ 63) ≤ k ∧ k < 2 ^ 63 ∧ xs.length * k.toNat ≤ sizeLine ∧
 ∀ p, H p = none → Q (.ref p) (upd H p (.lst (List.replicate k.toNat xs).flatten))
theorem len_rep {α : Type} (xs : List α) (k : Nat) : (List.replicate k xs).flatten.length = k * xs.length := by
 induction k with
 | zero => simp
 | succ k ih => rw [List.replicate_succ, List.flatten_cons, List.length_append, ih, Nat.succ_mul, Nat.add_comm]
theorem op_rep : OpR X (binaryOp .Mult) rRep := by
 intro pins s σ H x y v u Q I rx ry h
 obtain ⟨l, k, xs, rfl, rfl, hH, h1, h2, hz, q⟩ := h
 cases rx
 obtain ⟨t, rfl⟩ := ry
 obtain ⟨z, its, n, r, hl, e⟩ := I.lstM hH
 have hlen : its.toArray.size * k.toNat ≤ sizeLine := by rw [List.size_toArray, ← hl]; exact hz
 have hcap : ¬ its.toArray.size * k.toNat > (2 ^ 63 - 1) / 8 := by
  have : (sizeLine : Nat) ≤ (2 ^ 63 - 1) / 8 := by decide
  omega
 have hfit : ¬ (!Builtin.List.listFitsIndex k) = true := by
  rw [fitsIndex_both h1 h2]
  exact Bool.false_ne_true
 have hlong : ¬ Builtin.List.listTooLong (its.toArray.size * k.toNat) = true := by
  rw [notLongL hlen]
  exact Bool.false_ne_true
 have hnew : List.foldl (fun x1 x2 => x1 ++ x2) #[] (List.replicate (if its.toArray.isEmpty = true then 0 else k.toNat) its.toArray) = (List.replicate k.toNat its).flatten.toArray := by
  have f0 : ∀ m : Nat, List.foldl (fun x1 x2 => x1 ++ x2) #[] (List.replicate m its.toArray) = (List.replicate m its).flatten.toArray := fun m => by
   have := foldl_rep its m []
   rw [List.nil_append] at this
   exact this
  rw [f0]
  cases its with
  | nil => simp
  | cons a r' => rw [if_neg (by simp)]
 refine wpAny_binaryOp_repeat_ref (T := "list") (U := "int") (by decide) ⟨_, e, rfl⟩ (fun s' => typeIs_int s' k t) noFill_list_mul F.fills_int_mul F.slot_int_rmul repeat_list F.slot_int_index.lookup
  (call_meets F.slot_int_rmul (typeIs_int s k t) F.entry_int_rmul (F.args_int_rmul_2 _ _) (int___rmul___int_list k t l its.toArray n)
   ⟨e, rfl, ⟨_, e, rfl⟩, call_meets F.slot_list_mul ⟨_, e, rfl⟩ F.entry_list_mul (F.args_list_mul_2 _ _) (AutoListH.list___mul___list_int_3 l its.toArray n k t hfit hcap hlong) ⟨e, ?_⟩⟩)
 rw [hnew]
 exact ⟨.ref _, _, I.lnew (t' := s.toks) (r.rep k.toNat) (by rw [len_rep, Nat.mul_comm]; exact hz), rfl, q _ I.fresh⟩
end
section
variable {prog : Program} {w : World} {A : Around} {E : Value → Shared → Prop} {s : Shared}
end
section
variable {X : Cx}
end
end L2
namespace Att
open PySem PySem.W PySem.Calls PyProof.Rows
theorem ints_of_wellAll {P : Params} {h : Heap} : ∀ (ns : List Int) (vs : List Value), WellAll P h vs (ns.map WData.int) → IntsAre vs ns := by
 intro ns
 induction ns with
 | nil =>
  intro vs w
  rw [List.map_nil] at w
  cases w
  exact .nil
 | cons n ns ih =>
  intro vs w
  rw [List.map_cons] at w
  cases w with
  | cons a b =>
   cases a
   exact .cons _ _ (ih _ b)
theorem script_of {l : OpenLaw} {n : Nat} (hn : l.most = some n) {P : Params} {h : Heap} {args : List WData} {vals : List Value}
    (hpre : l.row.toRowW.claim.pre args = true) (hwl : WellAll P h vals args) :
    ∃ a vs ns, vals = [Value.ref a] ∧ args = [WData.list (ns.map WData.int)] ∧ h.get? a = some { cls := .type "list", data := .seq vs.toArray } ∧ IntsAre vs ns ∧ ns.length ≤ n := by
  have hsh : WShape.hasAll [] args [.list .int] = true := (pre_splitW hpre).1
  have hc : l.pre.holds [] { args := args } = true := (pre_splitW hpre).2
  obtain ⟨d, r, rfl, h1, h2⟩ := hasAllW_cons hsh
  obtain rfl := hasAllW_nil h2
  obtain ⟨xs, rfl, h3⟩ := hasW_list h1
  obtain ⟨ns, rfl⟩ := items_int h3
  have hlen : ns.length ≤ n := by
    unfold OpenLaw.pre at hc
    have h4 : (WTm.not (.lt (.lit (.int (n : Int))) (.len (.arg 0)))).holds [] { args := [.list (ns.map .int)] } = true := by
      have h4 := (holds_andW hc).1
      rw [hn] at h4
      exact h4
    have h5 := condW_of h4 (w_not (w_lt w_lit (w_len_list (w_arg rfl))))
    rw [List.length_map] at h5
    refine Nat.le_of_not_lt fun q => ?_
    have q' : (n : Int) < ((ns.length : Nat) : Int) := by omega
    first
      | (rw [decide_eq_true q'] at h5; exact absurd h5 (by decide))
      | (simp at h5; omega)
  cases hwl with
  | cons w1 w2 =>
    cases w2
    cases w1 with
    | list ho hall => exact ⟨_, _, ns, rfl, rfl, ho, ints_of_wellAll ns _ hall, hlen⟩
theorem post_true (l : OpenLaw) (args : List WData) : l.row.toRowW.claim.post args (.bool true) args = true :=
 postW_of (r := l.row.toRowW) (X := (true == true))
  (show WShape.has [] (.bool true) .bool = true by first | rfl | decide | simp [WShape.has, WShape.arms, WShape.armsAll])
  (show (WTm.eq .res (.lit (.bool true))).value [] { args := args, res := some (.bool true), after := args } = some (.bool (true == true)) from w_eq_bool (w_res rfl) w_lit) rfl
theorem attach_call {l : OpenLaw} {n : Nat} {q : Program} {loose : List Str} {XP : (Str → Option Value) → Heap → Prop} {YP : World → Heap → Prop} {d : DefRec}
  (hn : l.most = some n) (hdf : d.params.defaults = [])
  (call : ∀ (w : World) (s₀ s₁ : Shared) (mg mb : Str → Option Value) (fa : Addr) (o : Obj) (pm cd doc : Value) (a : Addr) (vs : List Value) (ns : List Int),
   Ground q loose [] XP w s₀ mg mb s₁.heap → YP w s₁.heap →
   s₁.heap.get? fa = some o → o.data = .func (docDef d.name d.params d.body d.scope pm cd doc) → s₁.heap.CodeRec cd d.name → mg d.name = some (.ref fa) →
   s₁.heap.get? a = some { cls := .type "list", data := .seq vs.toArray } → IntsAre vs ns → ns.length ≤ n → s₁.gens = #[] →
   codeAny (model l.prog w) callerA (.call (.ref fa) ⟨[.ref a], []⟩) (fun r s' => r = .ok (.ret (.bool true)) ∧ OldK s₁.heap s'.heap ∧ s'.os = s₁.os ∧ AllBare s'.gens) s₁) :
  WalkO q loose XP YP l.row.toRowW d [] (fun f vs => PySem.call f vs) := by
 intro w s₀ s₁ mg mb G Y fa o pm cd doc dV kV ho hd hcd hD hmg hg args vals as hpre hlay hrd hwl hlo
 obtain rfl : dV = .none := Dflts.none hD hdf
 obtain rfl : kV = .none := Dflts.noKw hD
 obtain ⟨a, vs, ns, rfl, rfl, hobj, hints, hlen⟩ := script_of hn hpre hwl
 refine enter_call (codeAny_mono (call w s₀ s₁ mg mb fa o pm cd doc a vs ns G Y ho (fd_plain hd) hcd hmg hobj hints hlen hg) fun r s' hq => ?_)
 obtain ⟨rfl, h2, h3, h4⟩ := hq
 exact ⟨.inl ⟨.bool true, .bool true, [], rfl, fun _ => rfl, .bool true, post_true l _, fun _ => ⟨List.Pairwise.nil, fun _ hm => (nomatch hm)⟩⟩, h2, h3, h4⟩
section
variable {prog : Program} {w : World} {A : Around} {E : Value → Shared → Prop} {s : Shared} {K : Frag}
end
end Att
namespace L2
open PySem PySem.Spec PyProof.Rows
theorem vals_ints : ∀ {vs : List Value} {ns : List Int}, IntsAre vs ns → Vals (ns.map V.int) vs
 | _, _, .nil => .nil
 | _, _, .cons n t h => .cons ⟨t, rfl⟩ (vals_ints h)
def Only (H : Hp) : Prop := ∀ b, H b = none ∨ ∃ o xs, H b = some (.frz o (.lst xs))
theorem law_call {P : Program} {w : World} {K : PySem.W.Frag} {mg mb : Str → Option Value} {CX : CXT} {k : Nat} {fa a : Addr} {fd : FuncData} {x : Str} {sp : Sp} {s₁ : Shared} {vs : List Value} {ns : List Int}
  (KX : K.In s₁.heap) (hns : s₁.heap.Ns mainGlobals mg) (hb : s₁.heap.Ns builtinsNs mb) (hbb : ∀ x : Str, x ≠ "__name__" → mb x = bootBuiltins x) (hlim : s₁.heap.NoLimit) (hg : s₁.gens = #[])
  (ha : s₁.heap.get? a = some { cls := .type "list", data := .seq vs.toArray }) (hi : IntsAre vs ns) (hl : ns.length ≤ sizeLine) (hr : Room k callerA)
  (F : ∀ base : Heap, K.In base → base.Ns mainGlobals mg → FnOk P w K mg base CX k fa fd [x] sp) (hbind : ∀ (s : Shared) (u : Value), BindsTo s fd ⟨[u], []⟩ [(x, u)])
  (hsp : ∀ H : Hp, Only H → SqL K H a (ns.map V.int) → sp [.ref a] H (fun v _ => v = .bl true) fun _ _ _ => False)
  (hCX : ∀ H e s', CX [] H s₁ (fun _ _ _ => False) e s' → False) :
  codeAny (model P w) callerA (.call (.ref fa) ⟨[.ref a], []⟩) (fun r s' => r = .ok (.ret (.bool true)) ∧ OldK s₁.heap s'.heap ∧ s'.os = s₁.os ∧ AllBare s'.gens) s₁ := by
 have rv := vals_ints hi
 have lenV := hi.length
 -- from an abstract heap in which nothing but the script may be tracked
 have core : ∀ H : Hp, Only H → SqL K H a (ns.map V.int) → HOk P w H s₁.heap → (∀ b, H b ≠ none → b = a) → (H a ≠ none → K.lookup a = none) →
   codeAny (model P w) callerA (.call (.ref fa) ⟨[.ref a], []⟩) (fun r s' => r = .ok (.ret (.bool true)) ∧ OldK s₁.heap s'.heap ∧ s'.os = s₁.os ∧ AllBare s'.gens) s₁ := by
  intro H hO hS hok hA hK
  have base_of : ∀ {b : Addr} {o : Obj}, s₁.heap.get? b = some o → H b = none → (hidT s₁.heap H).get? b = some o := fun e n => hidT_get e n
  have noA : ∀ {b : Addr} {o : Obj} {es : Array DictEntry} {ep : Nat}, s₁.heap.get? b = some o → o.data = .dict es ep → H b = none := fun {b o es ep} e d => by
   cases q : H b with
   | none => rfl
   | some u =>
    have e' : b = a := hA b (by rw [q]; simp)
    subst e'
    rw [ha] at e; cases e
    have d' : Data.seq vs.toArray _ = Data.dict es ep := d
    cases d'
  have nsK : ∀ {b : Addr} {m : Str → Option Value}, s₁.heap.Ns b m → (hidT s₁.heap H).Ns b m := fun {b m} ⟨o, es, ep, e, d, r⟩ => ⟨o, es, ep, base_of e (noA e d), d, r⟩
  have hKb : K.In (hidT s₁.heap H) := fun b o e => base_of (KX b o e) (by
   cases q : H b with
   | none => rfl
   | some u =>
    have e' : b = a := hA b (by rw [q]; simp)
    subst e'
    rw [hK (by rw [q]; simp)] at e; cases e)
  have hM : Mod K mg (hidT s₁.heap H) := ⟨hKb, nsK hns, ⟨mb, nsK hb, hbb⟩, let ⟨mc, h1, h2⟩ := hlim; ⟨mc, nsK h1, h2⟩⟩
  have e0 : Env0 P w K mg (hidT s₁.heap H) callerA [] s₁ H := ⟨rfl, hM, fun b o e => of_hidT e, Nat.le_of_eq (hidT_size _ _), trivial, fun b hb => absurd (show b ∈ ([] : List Addr) from hb) (by simp), hok, .of_eq hg⟩
  refine codeAny_mono ((F _ hKb (nsK hns)).run callerA [] s₁ H ⟨[.ref a], []⟩ [.ref a] [.ref a] _ _ hr e0 (hbind s₁ (.ref a)) (.cons rfl .nil) (hsp H hO hS)) fun r s' h => ?_
  cases r with
  | error e => exact (hCX H e s' h).elim
  | ok fl =>
   cases fl with
   | next => exact False.elim h
   | brk => exact False.elim h
   | cont => exact False.elim h
   | ret u =>
    obtain ⟨v, H', os, bare, un, hok', r', q⟩ := h
    have q' : v = .bl true := q
    subst q'
    obtain rfl : u = Value.bool true := r'
    refine ⟨rfl, OldK.of_keep fun b o e => ?_, os, bare⟩
    cases q : H b with
    | none => exact un.keep b o e q (by intro z; exact absurd (show b ∈ ([] : List Addr) from z) (by simp)) (by simp)
    | some u =>
     rcases hO b with z | ⟨ob, xs, z⟩
     ·rw [q] at z; cases z
     ·have z2 := un.frzs b ob _ z
      obtain ⟨e1, _⟩ := hok b _ z
      obtain ⟨e2, _⟩ := hok' b _ z2
      rw [e] at e1; cases e1
      exact e2
 cases hk : K.lookup a with
 | some o =>
  -- the script is one of the module's own objects
  have e := KX a o hk
  rw [ha] at e
  cases e
  refine core (fun _ => none) (fun _ => .inl rfl) (.inr ⟨_, vs.toArray, _, hk, rfl, rfl, rfl, by rw [List.size_toArray, lenV]; exact hl, by simpa using rv⟩) (fun b u z => by have z' : (none : Option HO) = some u := z; cases z') (fun b z => absurd rfl z) fun z => absurd rfl z
 | none =>
  refine core (fun b => if b = a then some (.frz { cls := .type "list", data := .seq vs.toArray } (.lst (ns.map V.int))) else none) (fun b => ?_) (.inl (.inr ⟨{ cls := .type "list", data := .seq vs.toArray }, if_pos rfl⟩)) (fun b u z => ?_) (fun b z => ?_) fun _ => hk
  ·by_cases hb : b = a
   ·exact .inr ⟨_, _, if_pos hb⟩
   ·exact .inl (if_neg hb)
  ·by_cases hb : b = a
   ·have z' := (if_pos hb).symm.trans z
    cases z'
    subst hb
    exact ⟨ha, by rw [List.length_map]; exact hl, vs, _, rv, ha⟩
   ·have z' := (if_neg hb).symm.trans z
    cases z'
  ·by_cases hb : b = a
   ·exact hb
   ·exact absurd (if_neg hb) z
end L2
namespace L2
open PySem PySem.Spec PyProof.Rows
theorem walk_of {l : PySem.W.OpenLaw} {n k : Nat} {q : Program} {loose : List Str} {XP : (Str → Option Value) → Heap → Prop} {YP : World → Heap → Prop} {d : DefRec} {K : Params → PySem.W.Frag} {CX : World → CXT} {sp : World → Sp} {x : Str}
  (hn : l.most = some n) (hn2 : n ≤ sizeLine) (hdf : d.params.defaults = []) (hr : Room k callerA)
  (hY : ∀ (w : World) (h : Heap), YP w h → (K w.params).In h)
  (F : ∀ (w : World) (mg : Str → Option Value) (fa : Addr) (h : Heap), (K w.params).In h → h.Ns mainGlobals mg → mg d.name = some (.ref fa) →
   ∃ fd : FuncData, (∀ (s : Shared) (u : Value), BindsTo s fd ⟨[u], []⟩ [(x, u)]) ∧
    ∀ base : Heap, (K w.params).In base → base.Ns mainGlobals mg → FnOk l.prog w (K w.params) mg base (CX w) k fa fd [x] (sp w))
  (hsp : ∀ (w : World) (H : Hp) (a : Addr) (ns : List Int), ns.length ≤ n → Only H → SqL (K w.params) H a (ns.map V.int) → sp w [.ref a] H (fun v _ => v = .bl true) fun _ _ _ => False)
  (hCX : ∀ (w : World) (H : Hp) (s : Shared) (e : Value) (s' : Shared), CX w [] H s (fun _ _ _ => False) e s' → False) :
  PySem.W.WalkO q loose XP YP l.row.toRowW d [] (fun f vs => PySem.call f vs) := by
 refine Att.attach_call hn hdf fun w s₀ s₁ mg mb fa o pm cd doc a vs ns G Y ho hd hcd hmg hobj hints hlen hg => ?_
 have KX := hY w _ Y
 obtain ⟨fd, hb, hF⟩ := F w mg fa _ KX G.T.g hmg
 exact law_call KX G.T.g G.T.b G.T.builtins G.T.nolimit hg hobj hints (Nat.le_trans hlen hn2) hr hF hb (fun H hO hS => hsp w H a ns hlen hO hS) fun H e s' => hCX w H s₁ e s'
theorem walk_ofK {l : PySem.W.OpenLaw} {n k : Nat} {q : Program} {loose : List Str} {XP : (Str → Option Value) → Heap → Prop} {YP : World → Heap → Prop} {d : DefRec} {K : Params → PySem.W.Frag} {CX : CXT} {sp : PySem.W.Frag → Sp} {x : Str}
  (hn : l.most = some n) (hn2 : n ≤ sizeLine) (hdf : d.params.defaults = []) (hr : Room k callerA)
  (hY : ∀ (w : World) (h : Heap), YP w h → (K w.params).In h)
  (F : ∀ (w : World) (mg : Str → Option Value) (fa : Addr) (h : Heap), (K w.params).In h → h.Ns mainGlobals mg → mg d.name = some (.ref fa) →
   ∃ fd : FuncData, (∀ (s : Shared) (u : Value), BindsTo s fd ⟨[u], []⟩ [(x, u)]) ∧
    ∀ base : Heap, (K w.params).In base → base.Ns mainGlobals mg → FnOk l.prog w (K w.params) mg base CX k fa fd [x] (sp (K w.params)))
  (hsp : ∀ (K : PySem.W.Frag) (H : Hp) (a : Addr) (ns : List Int), ns.length ≤ n → Only H → SqL K H a (ns.map V.int) → sp K [.ref a] H (fun v _ => v = .bl true) fun _ _ _ => False)
  (hCX : ∀ (H : Hp) (s : Shared) (e : Value) (s' : Shared), CX [] H s (fun _ _ _ => False) e s' → False) :
  PySem.W.WalkO q loose XP YP l.row.toRowW d [] (fun f vs => PySem.call f vs) :=
 walk_of (K := K) (CX := fun _ => CX) (sp := fun w => sp (K w.params)) hn hn2 hdf hr hY F (fun w H a ns h1 h2 h3 => hsp (K w.params) H a ns h1 h2 h3) fun _ H s e s' => hCX H s e s'
end L2
namespace L2
open PySem PySem.Spec PyProof.Rows
def defArgs (s : Stmt) : Arguments := match s with
 | .FunctionDef _ a _ _ _ _ _ _ _ _ => a
 | _ => { posonlyargs := [], args := [], vararg := none, kwonlyargs := [], kw_defaults := [], kwarg := none, defaults := [] }
def defBody (s : Stmt) : List Stmt := match s with
 | .FunctionDef _ _ b _ _ _ _ _ _ _ => b
 | _ => []
def defScope (s : Stmt) : Scope := match s with
 | .FunctionDef _ _ _ _ _ _ sc _ _ _ => sc
 | _ => { kind := .function, names := [], isGenerator := false, isCoroutine := false }
abbrev CX0 : CXT := fun _ _ _ _ _ _ => False
abbrev E0 : XK := fun _ _ _ => False
theorem pass0 {X : Cx} : Passes CX0 X E0 := fun _ _ _ _ _ _ _ h => h.elim
structure Fun (K : PySem.W.Frag) (x qual : Str) (st : Stmt) (f : Addr) (fd : FuncData) : Prop where
 ex : ∃ (oc : Value) (od : Option Addr) (kV doc pm : Value) (an : Option Addr) (cdv ct : Value) (osl : Array (Option Value)),
  fd = PySem.W.fnOf x qual (defArgs st) (defBody st) (defScope st) .none kV doc pm an cdv ct ∧ K.lookup f = some ⟨oc, od, .func fd, osl⟩ ∧ PySem.W.codeIn K cdv qual = true
 kp : PySem.W.keepIn K (.ref f) = true
section
variable {P : Program} {w : World} {K : PySem.W.Frag} {mg : Str → Option Value} {base : Heap}
theorem Fun.ok {x qual : Str} {st : Stmt} {f : Addr} {fd : FuncData} {N ps : List Str} {k : Nat} {sp : Sp} (F : Fun K x qual st f fd) (S : FnScope N ps (defScope st)) (len : ∀ vs H Q E, sp vs H Q E → vs.length = ps.length)
  (hbody : ∀ (cdv : Value) (A : Around) (outer : List Env) (s : Shared) (H : Hp) (vs : List V) (Q : VK) (E : XK), Room k (A.deeper (envOfC qual (defScope st) s.heap.objs.size f cdv)) → sp vs H Q E →
   ∃ t, PSs (cxOf CX0 P w K mg base N qual (defScope st) f cdv A outer s H E).nox (defBody st) t ∧ t { nx := fun _ H' => Q .non H', rt := Q } (start N vs) H) : FnOk P w K mg base CX0 (k + 1) f fd ps sp := by
 obtain ⟨oc, od, kV, doc, pm, an, cdv, ct, osl, rfl, lk, hcd⟩ := F.ex
 refine fn_of lk hcd S len fun A outer s H vs Q E hr hsp => ?_
 obtain ⟨t, h, q⟩ := hbody cdv A outer s H vs Q E hr hsp
 exact ⟨t, h.nox, q⟩
theorem Fun.binds {x qual : Str} {st : Stmt} {f : Addr} {fd : FuncData} {ps : List Str} (F : Fun K x qual st f fd)
  (h : ∀ (kV doc pm : Value) (an : Option Addr) (cdv ct : Value) (us : List Value), us.length = ps.length → bindArgs (PySem.W.fnOf x qual (defArgs st) (defBody st) (defScope st) .none kV doc pm an cdv ct) ⟨us, []⟩ = pure (ps.zip us)) : Binds K fd ps [] := by
 obtain ⟨oc, od, kV, doc, pm, an, cdv, ct, osl, rfl, lk, hcd⟩ := F.ex
 exact .all (h kV doc pm an cdv ct)
theorem fun_mk {x qual : Str} {st : Stmt} {f : Addr} {oc : Value} {od an : Option Addr} {osl : Array (Option Value)} {kV doc pm cdv ct : Value} (l : K.lookup f = some ⟨oc, od, .func (PySem.W.fnOf x qual (defArgs st) (defBody st) (defScope st) .none kV doc pm an cdv ct), osl⟩)
  (c : PySem.W.codeIn K cdv qual = true) (k : PySem.W.keepIn K (.ref f) = true) : Fun K x qual st f (PySem.W.fnOf x qual (defArgs st) (defBody st) (defScope st) .none kV doc pm an cdv ct) := ⟨⟨oc, od, kV, doc, pm, an, cdv, ct, osl, rfl, l, c⟩, k⟩
end
section
variable {X : Cx}
end
def Same (H H' : Hp) : Prop := ∀ b o, H b = some o → H' b = some o
theorem Same.refl (H : Hp) : Same H H := fun _ _ h => h
theorem Same.trans {H H1 H2 : Hp} (a : Same H H1) (b : Same H1 H2) : Same H H2 := fun c o h => b c o (a c o h)
theorem Same.seq {K : PySem.W.Frag} {H H' : Hp} {a : Addr} {xs : List V} (e : Same H H') (h : SqL K H a xs) : SqL K H' a xs := by
 rcases h with (h | ⟨o, h⟩) | h
 ·exact .inl (.inl (e _ _ h))
 ·exact .inl (.inr ⟨o, e _ _ h⟩)
 ·exact .inr h
end L2

end

section
namespace L2
open PySem PySem.Spec PyProof.Rows
def clo (cs : List (Str × Addr)) : List (Str × NameKind) → List (Str × Addr) → List (Str × Addr)
  | [], acc => acc
  | (n, k) :: r, acc => if k == .free then (match cs.lookup n with | some a => clo cs r ((n, a) :: acc) | none => clo cs r acc) else clo cs r acc
theorem closure_eq {env : Env} : ∀ (names : List (Str × NameKind)) (acc : List (Str × Addr)), (∀ y ∈ names, y.2 = .free → ∃ c, env.cells.lookup y.1 = some c) →
    (forIn names acc (fun (p : Str × NameKind) (cs : List (Str × Addr)) => do
      if (p.2 == NameKind.free) = true then do
        let a ← cellOf env p.1
        pure (ForInStep.yield ((p.1, a) :: cs))
      else pure (ForInStep.yield cs)) : Sem (List (Str × Addr))) = pure (clo env.cells names acc)
  | [], acc, _ => rfl
  | (n, k) :: r, acc, h => by
    rw [List.forIn_cons]
    by_cases hk : (k == NameKind.free) = true
    · obtain ⟨c, hc⟩ := h (n, k) List.mem_cons_self (by simpa using hk)
      have hc' : env.cells.lookup n = some c := hc
      simp only [hk, if_true, cellOf, hc', clo]
      exact closure_eq r _ fun y hy => h y (List.mem_cons_of_mem _ hy)
    · have hk' : (k == NameKind.free) = false := by simpa using hk
      simp only [hk', Bool.false_eq_true, if_false, clo]
      exact closure_eq r _ fun y hy => h y (List.mem_cons_of_mem _ hy)
theorem closureFor_eq {env : Env} {scope : Scope} (h : ∀ y ∈ scope.names, y.2 = .free → ∃ c, env.cells.lookup y.1 = some c) : closureFor scope env = pure (clo env.cells scope.names []) := by
 have q := closure_eq (env := env) scope.names [] h
 unfold closureFor
 simp only []
 have e : (forIn scope.names ([] : List (Str × Addr)) (fun (p : Str × NameKind) (cs : List (Str × Addr)) => do
   if (p.2 == NameKind.free) = true then do
    let a ← cellOf env p.1
    pure (ForInStep.yield ((p.1, a) :: cs))
   else pure (ForInStep.yield cs)) : Sem (List (Str × Addr))) >>= (fun cs => pure cs) = pure (clo env.cells scope.names []) := by rw [q]; rfl
 exact e
end L2

end

section
namespace L2
open PySem PySem.Spec PyProof.Rows
theorem clo_look {cs : List (Str × Addr)} {x : Str} {c : Addr} : ∀ (names : List (Str × NameKind)) (acc : List (Str × Addr)), (clo cs names acc).lookup x = some c → cs.lookup x = some c ∨ acc.lookup x = some c
  | [], _, h => .inr h
  | (n, k) :: r, acc, h => by
    unfold clo at h
    split at h
    · cases hc : cs.lookup n with
      | none => rw [hc] at h; exact clo_look r acc h
      | some a =>
        rw [hc] at h
        rcases clo_look r _ h with q | q
        · exact .inl q
        · rw [List.lookup_cons] at q
          cases hx : x == n with
          | true => rw [hx] at q; rw [beq_iff_eq.mp hx, hc]; exact .inl q
          | false => rw [hx] at q; exact .inr q
    · exact clo_look r acc h
theorem clo_keep {cs : List (Str × Addr)} {x : Str} {c : Addr} (hc : cs.lookup x = some c) : ∀ (names : List (Str × NameKind)) (acc : List (Str × Addr)), acc.lookup x = some c → (clo cs names acc).lookup x = some c
  | [], _, h => h
  | (n, k) :: r, acc, h => by
    unfold clo
    split
    · cases hn : cs.lookup n with
      | none => exact clo_keep hc r acc h
      | some a =>
        refine clo_keep hc r _ ?_
        rw [List.lookup_cons]
        cases hx : x == n with
        | true => rw [beq_iff_eq.mp hx, hn] at hc; exact hc
        | false => exact h
    · exact clo_keep hc r acc h
theorem clo_has {cs : List (Str × Addr)} {x : Str} {c : Addr} (hc : cs.lookup x = some c) : ∀ (names : List (Str × NameKind)) (acc : List (Str × Addr)), (x, NameKind.free) ∈ names → (clo cs names acc).lookup x = some c
  | [], _, h => nomatch h
  | (n, k) :: r, acc, h => by
    unfold clo
    rcases List.mem_cons.mp h with e | h
    · cases e
      simp only [beq_self_eq_true, if_true, hc]
      exact clo_keep hc r _ (by simp [List.lookup_cons])
    · split
      · cases hn : cs.lookup n with
        | none => exact clo_has hc r acc h
        | some a => exact clo_has hc r _ h
      · exact clo_has hc r acc h
theorem from_look {x : Str} {c : Addr} : ∀ (names : List (Str × NameKind)) (n : Nat) (acc : List (Str × Addr)), (cellsFrom n names acc).lookup x = some c → n ≤ c ∨ acc.lookup x = some c
  | [], _, _, h => .inr h
  | (y, k) :: r, n, acc, h => by
    unfold cellsFrom at h
    split at h
    · rcases from_look r (n + 1) _ h with q | q
      · exact .inl (by omega)
      · rw [List.lookup_cons] at q
        cases hx : x == y with
        | true => rw [hx] at q; cases q; exact .inl (Nat.le_refl _)
        | false => rw [hx] at q; exact .inr q
    · exact from_look r n acc h
theorem from_own {x : Str} {c : Addr} {lo : Nat} : ∀ (names : List (Str × NameKind)) (n : Nat) (acc : List (Str × Addr)), lo ≤ n → ((x, NameKind.cell) ∈ names ∨ ∀ c, acc.lookup x = some c → lo ≤ c) → (cellsFrom n names acc).lookup x = some c → lo ≤ c
  | [], _, _, _, hm, h => hm.elim (fun z => nomatch z) fun z => z c h
  | (y, k) :: r, n, acc, hl, hm, h => by
    unfold cellsFrom at h
    split at h
    · rename_i hk
      refine from_own r (n + 1) _ (by omega) ?_ h
      by_cases hx : x = y
      · refine .inr fun c' q => ?_
        rw [List.lookup_cons, hx, beq_self_eq_true] at q
        cases q; exact hl
      · rcases hm with hm | hm
        · rcases List.mem_cons.mp hm with e | hm
          · cases e; exact absurd rfl hx
          · exact .inl hm
        · refine .inr fun c' q => hm c' ?_
          rw [List.lookup_cons, beq_eq_false_iff_ne.mpr hx] at q
          exact q
    · rename_i hk
      refine from_own r n acc hl ?_ h
      rcases hm with hm | hm
      · rcases List.mem_cons.mp hm with e | hm
        · cases e; exact absurd rfl hk
        · exact .inl hm
      · exact .inr hm
theorem from_keep {x : Str} {c : Addr} : ∀ (names : List (Str × NameKind)) (n : Nat) (acc : List (Str × Addr)), (x, NameKind.cell) ∉ names → acc.lookup x = some c → (cellsFrom n names acc).lookup x = some c
  | [], _, _, _, h => h
  | (y, k) :: r, n, acc, hm, h => by
    have hm' : (x, NameKind.cell) ∉ r := fun z => hm (List.mem_cons_of_mem _ z)
    unfold cellsFrom
    split
    · rename_i hk
      refine from_keep r (n + 1) _ hm' ?_
      rw [List.lookup_cons]
      cases hx : x == y with
      | true =>
        have e1 : k = NameKind.cell := by simpa using hk
        exact absurd (by rw [beq_iff_eq.mp hx, e1]; exact List.mem_cons_self) hm
      | false => exact h
    · exact from_keep r n acc hm' h
theorem from_has {x : Str} : ∀ (names : List (Str × NameKind)) (n : Nat) (acc : List (Str × Addr)), ((x, NameKind.cell) ∈ names ∨ ∃ c, acc.lookup x = some c) → ∃ c, (cellsFrom n names acc).lookup x = some c
  | [], _, _, hm => hm.elim (fun z => nomatch z) fun z => z
  | (y, k) :: r, n, acc, hm => by
    unfold cellsFrom
    split
    · rename_i hk
      refine from_has r (n + 1) _ ?_
      by_cases hx : x = y
      · exact .inr ⟨n, by rw [hx, List.lookup_cons, beq_self_eq_true]⟩
      · rcases hm with hm | ⟨c, hm⟩
        · rcases List.mem_cons.mp hm with e | hm
          · cases e; exact absurd rfl hx
          · exact .inl hm
        · exact .inr ⟨c, by rw [List.lookup_cons, beq_eq_false_iff_ne.mpr hx]; exact hm⟩
    · rename_i hk
      refine from_has r n acc ?_
      rcases hm with hm | hm
      · rcases List.mem_cons.mp hm with e | hm
        · cases e; exact absurd rfl hk
        · exact .inl hm
      · exact .inr hm
theorem from_inj : ∀ (names : List (Str × NameKind)) (n : Nat) (acc : List (Str × Addr)), (∀ x c, acc.lookup x = some c → c < n) → (∀ x y c, acc.lookup x = some c → acc.lookup y = some c → x = y) →
    ∀ x y c, (cellsFrom n names acc).lookup x = some c → (cellsFrom n names acc).lookup y = some c → x = y
  | [], _, _, _, hi => hi
  | (z, k) :: r, n, acc, hb, hi => by
    unfold cellsFrom
    split
    · refine from_inj r (n + 1) _ (fun x c q => ?_) fun x y c q q' => ?_
      · rw [List.lookup_cons] at q
        cases hx : x == z with
        | true => rw [hx] at q; cases q; exact Nat.lt_succ_self _
        | false => rw [hx] at q; exact Nat.lt_succ_of_lt (hb x c q)
      · rw [List.lookup_cons] at q q'
        cases hx : x == z with
        | true =>
          rw [hx] at q; cases q
          cases hy : y == z with
          | true => rw [beq_iff_eq.mp hx, beq_iff_eq.mp hy]
          | false => rw [hy] at q'; exact absurd (hb y _ q') (Nat.lt_irrefl _)
        | false =>
          rw [hx] at q
          cases hy : y == z with
          | true => rw [hy] at q'; cases q'; exact absurd (hb x _ q) (Nat.lt_irrefl _)
          | false => rw [hy] at q'; exact hi x y c q q'
    · exact from_inj r n acc hb hi
theorem push_cells : ∀ (names : List (Str × NameKind)) (h : Heap) (acc : List (Str × Addr)) {x : Str} {c : Addr}, (cellsFrom h.objs.size names acc).lookup x = some c → (pushCells h names).IsCell c none ∨ acc.lookup x = some c
  | [], _, _, _, _, q => .inr q
  | (z, k) :: r, h, acc, x, c, q => by
    unfold cellsFrom at q
    unfold pushCells
    split at q
    · rename_i hk
      rw [if_pos hk]
      have e : (h.push { cls := .type "cell", data := .cell none }).objs.size = h.objs.size + 1 := Heap.size_push ..
      rw [← e] at q
      rcases push_cells r _ _ q with q | q
      · exact .inl q
      · rw [List.lookup_cons] at q
        cases hx : x == z with
        | true =>
          rw [hx] at q; cases q
          refine .inl ?_
          have w : (h.push { cls := .type "cell", data := .cell none }).IsCell h.objs.size none := ⟨_, Heap.get?_push_size _ rfl, rfl⟩
          exact w.keeps (pushCells_keeps r _)
        | false => rw [hx] at q; exact .inr q
    · rename_i hk
      rw [if_neg hk]
      exact push_cells r h acc q
def blockEnv (scope : Scope) (env : Env) (C : Addr) : Env :=
  { scope := relabel scope env, locals := C, globals := env.globals, cells := cellsFrom (C + 1) scope.names (clo env.cells scope.names []), qual := env.qual, func := none, code := env.code, frame := env.frame, builtins := env.builtins }
theorem newBlock {M : Model} {A : Around} {E : Value → Shared → Prop} {s : Shared} {scope : Scope} {env : Env} {cl : List (Str × Addr)} {Q : Env → Shared → Prop}
    (h : Q { scope := scope, locals := s.heap.objs.size, globals := env.globals, cells := cellsFrom (s.heap.objs.size + 1) scope.names cl, qual := env.qual, func := none, code := env.code, frame := env.frame, builtins := env.builtins }
      { s with heap := pushCells (s.heap.push { cls := .type "dict", data := .dict #[] }) scope.names }) :
    wpAny M A (newFunctionEnv scope env.globals cl [] env.qual none .none (some env)) Q E s := by
  have top : ({ s with heap := s.heap.push { cls := .type "dict", data := .dict #[] } } : Shared).heap.objs.size = s.heap.objs.size + 1 := Heap.size_push ..
  rw [← top] at h
  unfold newFunctionEnv
  simp only [Option.isSome_some, if_true]
  exact wpAny_bind (wpAny_alloc (wpAny_bind (wpAny_layCells _ (fun n k cs => by by_cases c : (k == NameKind.cell) = true <;> simp [c]) _ _ _ _ (wpAny_bind (wpAny_pure (wpAny_pure h))))))
structure BlockScope (sc : Scope) (N : List Str) (scope : Scope) (N' : List Str) (cap : List (Option Nat)) : Prop where
 kind : scope.kind = .function
 free : ∀ y ∈ scope.names, y.2 = .free → sc.names.lookup y.1 = some .cell ∨ sc.names.lookup y.1 = some .free
 len : cap.length = N'.length
 capt : ∀ (i j : Nat), cap[i]? = some (some j) → ∃ x : Str, N'[i]? = some x ∧ N[j]? = some x ∧ (x, NameKind.free) ∈ scope.names ∧ (x, NameKind.cell) ∉ scope.names
 names : ∀ y ∈ scope.names, y.2 = .local → scope.names.lookup y.1 = some .local
 own : ∀ y ∈ scope.names, scope.names.lookup y.1 = some y.2
def blockOk (sc : Scope) (N : List Str) (scope : Scope) (N' : List Str) (cap : List (Option Nat)) : Bool :=
  scope.kind == .function && (scope.names.all fun y => y.2 != .free || sc.names.lookup y.1 == some .cell || sc.names.lookup y.1 == some .free) && cap.length == N'.length &&
    ((List.range cap.length).all fun i => match cap[i]? with
      | some (some j) => (match N'[i]?, N[j]? with
        | some x, some y => x == y && scope.names.any (fun z => z.1 == x && z.2 == .free) && scope.names.all (fun z => !(z.1 == x && z.2 == .cell))
        | _, _ => false)
      | _ => true) && scope.names.all fun y => scope.names.lookup y.1 == some y.2
theorem BlockScope.of {sc : Scope} {N : List Str} {scope : Scope} {N' : List Str} {cap : List (Option Nat)} (h : blockOk sc N scope N' cap = true) : BlockScope sc N scope N' cap := by
 unfold blockOk at h
 simp only [Bool.and_eq_true] at h
 obtain ⟨⟨⟨⟨h1, h2⟩, h3⟩, h4⟩, h5⟩ := h
 have own : ∀ y ∈ scope.names, scope.names.lookup y.1 = some y.2 := fun y hy => by
  have := List.all_eq_true.mp h5 y hy
  simpa using this
 refine ⟨by simpa using h1, fun y hy hf => ?_, by simpa using h3, fun i j e => ?_, fun y hy hl => by rw [own y hy, hl], own⟩
 ·have := List.all_eq_true.mp h2 y hy
  rw [hf] at this
  simpa using this
 ·have hi : i < cap.length := (List.getElem?_eq_some_iff.mp e).1
  have := List.all_eq_true.mp h4 i (List.mem_range.mpr hi)
  rw [e] at this
  dsimp only at this
  cases hx : N'[i]? with
  | none => rw [hx] at this; simp at this
  | some x =>
   cases hy : N[j]? with
   | none => rw [hx, hy] at this; simp at this
   | some y =>
    rw [hx, hy] at this
    simp only [Bool.and_eq_true] at this
    obtain ⟨⟨t1, t2⟩, t3⟩ := this
    have e1 : x = y := by simpa using t1
    subst e1
    obtain ⟨z, hz, t⟩ := List.any_eq_true.mp t2
    simp only [Bool.and_eq_true] at t
    have z1 : z.1 = x := by simpa using t.1
    have z2 : z.2 = .free := by simpa using t.2
    have ez : z = (x, NameKind.free) := by rw [← z1, ← z2]
    refine ⟨x, rfl, rfl, ez ▸ hz, fun hm => ?_⟩
    have := List.all_eq_true.mp t3 _ hm
    simp at this
def capOf (cap : List (Option Nat)) (σ : St) : St := cap.map fun o => match o with | some j => (match σ[j]? with | some v => v | none => none) | none => none
end L2

end

section
namespace L2
open PySem PySem.Spec PyProof.Rows
def PTs (X : Cx) (cs : List Expr) (t : TT) : Prop :=
 ∀ (pins : List (Addr × Obj)) (s : Shared) (σ : St) (H : Hp) (Q : Bool → Hp → Prop), Inv X pins σ H s → t σ H Q →
  wpAny (model X.prog X.w) X.A (forIn cs true fun c r => if r = true then do let ok ← isTrue c X.env (eval c X.env); pure (ForInStep.yield ok) else pure (ForInStep.yield r)) (TP X pins σ Q) X.xe s
def tAlways : TT := fun _ H Q => Q true H
theorem pts_nil {X : Cx} : PTs X [] tAlways := fun _ _ σ H Q I h => wpAny_tests_nil ⟨H, I, h⟩
def blockCx (X : Cx) (N' : List Str) (scope : Scope) (s : Shared) (H : Hp) (ex : List Addr) (C : Addr) : Cx :=
  { X with N := N', s₀ := s, H₀ := H, env := blockEnv scope X.env C, outer := X.stack, ex := ex, fn := fun x => scope.names.any fun z => z.1 == x && z.2 == .cell, pn := [], xe := fun _ _ => False }
theorem lookup_relabel {env : Env} {x : Str} : ∀ (names : List (Str × NameKind)), (names.map fun (n, k) => if (k == NameKind.free && env.scope.kind == .function && env.kindOf n == some .cell) then (n, NameKind.cell) else (n, k)).lookup x =
    (names.lookup x).map fun k => if (k == NameKind.free && env.scope.kind == .function && env.kindOf x == some .cell) then NameKind.cell else k
  | [] => rfl
  | (n, k) :: r => by
    have ih := lookup_relabel (env := env) (x := x) r
    show List.lookup x ((if (k == NameKind.free && env.scope.kind == .function && env.kindOf n == some .cell) = true then (n, NameKind.cell) else (n, k)) :: _) = _
    cases hx : x == n with
    | true =>
      have e : x = n := beq_iff_eq.mp hx
      subst e
      split <;> simp_all [List.lookup_cons]
    | false =>
      have e : (List.lookup x ((n, k) :: r)) = r.lookup x := by rw [List.lookup_cons, hx]
      rw [e, ← ih]
      split <;> simp [List.lookup_cons, hx]
section
variable {X : Cx} {pins : List (Addr × Obj)} {σ : St} {H : Hp} {s : Shared} {scope : Scope} {N' : List Str} {cap : List (Option Nat)} {fp : List Addr}
theorem block_ok (I : Inv X pins σ H s) (B : BlockScope X.env.scope X.N scope N' cap) (hf : ∀ b ∈ fp, FpOk X pins H b) (hlt : ∀ b ∈ fp, b < s.heap.objs.size) {C : Addr} (hC : s.heap.objs.size ≤ C) :
  (blockCx X N' scope s H fp C).Ok := by
 have clt : ∀ x c, X.env.cells.lookup x = some c → c < s.heap.objs.size := fun x c e => let ⟨_, q⟩ := I.cell x c e; q.lt
 have acc : ∀ x c, (clo X.env.cells scope.names []).lookup x = some c → X.env.cells.lookup x = some c := fun x c e => (clo_look _ _ e).elim id fun z => nomatch z
 refine ⟨I.ok.mod, B.kind, I.ok.glob, I.ok.blt, hC, fun x y c h1 h2 => ?_, fun x hx => ?_, fun x c hx h => ?_, I.ok.hd, I.ok.frames, .inl rfl, fun b hb => ⟨?_, fun x c h e => ?_⟩, I.bs, Nat.le_trans I.ok.bsz I.sz, fun b o e hb => ?_, fun b hb z => ?_, I.stack, I.stkFree⟩
 ·exact from_inj scope.names (C + 1) _ (fun x c e => Nat.lt_succ_of_lt (Nat.lt_of_lt_of_le (clt x c (acc x c e)) hC)) (fun x y c e e' => I.ok.inj x y c (acc x c e) (acc y c e')) x y c h1 h2
 ·have hx' : (relabel scope X.env).names.lookup x = some .cell ∨ (relabel scope X.env).names.lookup x = some .free := hx
  have hl : (scope.names.lookup x).isSome = true := by
   unfold relabel at hx'
   rw [lookup_relabel] at hx'
   cases q : scope.names.lookup x with
   | none => rw [q] at hx'; rcases hx' with z | z <;> cases z
   | some k => rfl
  obtain ⟨k, hk⟩ := Option.isSome_iff_exists.mp hl
  have hm := PySem.mem_of_lookup hk
  refine from_has scope.names (C + 1) _ ?_
  cases k with
  | cell => exact .inl hm
  | free =>
   refine .inr ?_
   obtain ⟨c, hc⟩ := I.ok.has x (B.free _ hm rfl)
   exact ⟨c, clo_has hc _ _ hm⟩
  | _ =>
   unfold relabel at hx'
   rw [lookup_relabel, hk] at hx'
   rcases hx' with z | z <;> simp at z
 ·have hx' : (scope.names.any fun z => z.1 == x && z.2 == .cell) = true := hx
  obtain ⟨z, hz, t⟩ := List.any_eq_true.mp hx'
  simp only [Bool.and_eq_true] at t
  have z1 : z.1 = x := by simpa using t.1
  have z2 : z.2 = .cell := by simpa using t.2
  have ez : z = (x, NameKind.cell) := by rw [← z1, ← z2]
  have := from_own (lo := C + 1) scope.names (C + 1) _ (Nat.le_refl _) (.inl (ez ▸ hz)) h
  exact Nat.le_trans hC (Nat.le_of_succ_le this)
 ·exact Nat.ne_of_lt (Nat.lt_of_lt_of_le (hlt b hb) hC)
 ·rcases from_look scope.names (C + 1) _ h with q | q
  ·have := hlt b hb
   rw [← e] at this
   exact absurd (Nat.lt_of_lt_of_le this (Nat.le_trans hC (Nat.le_of_succ_le q))) (Nat.lt_irrefl _)
  ·exact (hf b hb).2.2.2.2.1 x c (acc x c q) e
 ·obtain ⟨_, _, _, f3, _⟩ := hf b hb
  rcases f3 with f3 | f3
  ·exact I.ok.noex b o e f3
  ·exact absurd (Nat.lt_of_lt_of_le (Heap.lt_size e) (Nat.le_trans I.ok.bsz f3)) (Nat.lt_irrefl _)
 ·obtain ⟨_, f1, f2, _⟩ := hf b hb
  rcases List.mem_cons.mp (I.stkSub b z) with q | q
  ·exact f1 q
  ·exact f2 q
theorem block_start (I : Inv X pins σ H s) (B : BlockScope X.env.scope X.N scope N' cap) (hf : ∀ b ∈ fp, FpOk X pins H b) (hlt : ∀ b ∈ fp, b < s.heap.objs.size) {h3 : Heap} (hk : ∀ b o, s.heap.get? b = some o → h3.get? b = some o) (hsz : s.heap.objs.size ≤ h3.objs.size) :
  Inv (blockCx X N' scope s H fp h3.objs.size) [] (capOf cap σ) H { s with heap := pushCells (h3.push { cls := .type "dict", data := .dict #[] }) scope.names } := by
 have acc : ∀ x c, (clo X.env.cells scope.names []).lookup x = some c → X.env.cells.lookup x = some c := fun x c e => (clo_look _ _ e).elim id fun z => nomatch z
 have hk3 : ∀ b o, h3.get? b = some o → (pushCells (h3.push { cls := .type "dict", data := .dict #[] }) scope.names).get? b = some o := fun b o e => pushCells_keeps _ _ b o (Heap.get?_push_of_some _ e)
 have hk4 : ∀ b o, s.heap.get? b = some o → (pushCells (h3.push { cls := .type "dict", data := .dict #[] }) scope.names).get? b = some o := fun b o e => hk3 b o (hk b o e)
 refine ⟨block_ok I B hf hlt hsz, rfl, I.bare, Un.kept hk4, ⟨fun _ => none, (Heap.Ns.new h3 (.type "dict")).keeps (pushCells_keeps _ _), fun i x v h1 h2 h4 => ?_⟩, fun x c h => ?_, ?_, fun x c h => ?_, fun p hp => absurd (show p ∈ ([] : List (Addr × Obj)) from hp) (by simp), I.hok.kept hk4, ?_⟩
 ·have h2' : (capOf cap σ)[i]? = some (some v) := h2
  unfold capOf at h2'
  rw [List.getElem?_map] at h2'
  cases q : cap[i]? with
  | none => rw [q] at h2'; cases h2'
  | some o =>
   rw [q] at h2'
   cases o with
   | none => exact nomatch Option.some.inj h2'
   | some j =>
    have h2'' : (match σ[j]? with | some v => v | none => none) = some v := Option.some.inj h2'
    cases qs : σ[j]? with
    | none => rw [qs] at h2''; cases h2''
    | some v' =>
     rw [qs] at h2''
     have hs : σ[j]? = some (some v) := by rw [qs]; exact congrArg some h2''
     obtain ⟨x', e1, e2, e3, e4⟩ := B.capt i j q
     have h1' : N'[i]? = some x := h1
     rw [h1'] at e1; cases e1
     have hcf := B.free _ e3 rfl
     obtain ⟨m, hn, hl⟩ := I.loc
     obtain ⟨u, ru, lk⟩ := hl j x v e2 hs (hcf.elim (fun z => .inr (.inl z)) fun z => .inr (.inr z))
     refine ⟨u, ru, ?_⟩
     rcases lk with ⟨lk, _⟩ | ⟨_, c, hc, ic⟩
     ·have lk' : X.env.scope.names.lookup x = some .local := lk
      have hcf' : X.env.scope.names.lookup x = some .cell ∨ X.env.scope.names.lookup x = some .free := hcf
      rw [lk'] at hcf'; rcases hcf' with z | z <;> cases z
     ·refine .inr ⟨?_, c, from_keep _ _ _ e4 (clo_has hc _ _ e3), ic.keeps hk4⟩
      have : (relabel scope X.env).names.lookup x = some .cell ∨ (relabel scope X.env).names.lookup x = some .free := by
       unfold relabel
       rw [lookup_relabel, B.own _ e3]
       dsimp only [Option.map]
       split
       ·exact .inl rfl
       ·exact .inr rfl
      exact this
 ·have h' : (cellsFrom (h3.objs.size + 1) scope.names (clo X.env.cells scope.names [])).lookup x = some c := h
  have e : (h3.push { cls := .type "dict", data := .dict #[] }).objs.size = h3.objs.size + 1 := Heap.size_push ..
  rw [← e] at h'
  rcases push_cells _ _ _ h' with q | q
  ·exact ⟨_, q⟩
  ·obtain ⟨v, z⟩ := I.cell x c (acc x c q)
   exact ⟨v, z.keeps hk4⟩
 ·exact I.hok.fresh hsz
 ·rcases from_look scope.names (h3.objs.size + 1) _ h with q | q
  ·exact I.hok.fresh (Nat.le_trans hsz (Nat.le_of_succ_le q))
  ·exact I.freeC x c (acc x c q)
 ·show (capOf cap σ).length = N'.length
  unfold capOf
  rw [List.length_map]
  exact B.len
end
end L2

end

section
namespace L2
open PySem PySem.Spec PyProof.Rows
def Keep : St → St → Prop
 | [], [] => True
 | none :: r, _ :: r' => Keep r r'
 | some v :: r, o :: r' => o = some v ∧ Keep r r'
 | _, _ => False
theorem Keep.len : ∀ {a b : St}, Keep a b → a.length = b.length
 | [], [], _ => rfl
 | none :: r, _ :: r', h => by have h' : Keep r r' := h; simp [Keep.len h']
 | some v :: r, o :: r', h => by have h' : o = some v ∧ Keep r r' := h; simp [Keep.len h'.2]
theorem Keep.get : ∀ {a b : St} {i : Nat} {v : V}, Keep a b → a[i]? = some (some v) → b[i]? = some (some v)
 | [], [], _, _, _, e => by simp at e
 | none :: r, _ :: r', 0, v, h, e => by simp at e
 | none :: r, _ :: r', i + 1, v, h, e => by
  have h' : Keep r r' := h
  simpa using Keep.get (i := i) h' (by simpa using e)
 | some v :: r, o :: r', 0, w, h, e => by
  have h' : o = some v ∧ Keep r r' := h
  simp at e
  simp [h'.1, e]
 | some v :: r, o :: r', i + 1, w, h, e => by
  have h' : o = some v ∧ Keep r r' := h
  simpa using Keep.get (i := i) h'.2 (by simpa using e)
def br (c : Bool) (A B : Prop) : Prop := (c = true → A) ∧ (c = false → B)
def tComp (wi : TI) (cap : List (Option Nat)) (g : TG) (tt : TT) (te : TE) : St → Hp → (List V → Hp → Prop) → Prop := fun σ H Q => wi σ H fun J H1 =>
 ∃ W : Nat → Nat → List V → Hp → Prop, (∃ m, W 0 m [] H1) ∧ ∀ i m ys H, W i m ys H →
  (J.stop i H ∧ Q ys H) ∨
  (J.go i H ∧ ys.length < sizeLine ∧ ∃ N : List V → Hp → Prop, (∀ ys' H', N ys' H' → ∃ m', m' < m ∧ W (i + 1) m' ys' H') ∧ ∀ x H', J.yld i H x H' → g x (capOf cap σ) H' fun σ2 H2 => Keep (capOf cap σ) σ2 ∧ tt σ2 H2 fun b H3 =>
   br b (te σ2 H3 fun y H4 => N (ys ++ [y]) H4) (N ys H3))
structure Left (X : Cx) (pins : List (Addr × Obj)) (C : Addr) (H : Hp) (s : Shared) : Prop where
 ns : ∃ m, s.heap.Ns C m
 free : H C = none
 loc : C ≠ X.env.locals
 sz : X.s₀.heap.objs.size ≤ C
 cell : ∀ x c, X.env.cells.lookup x = some c → c ≠ C
 pin : ∀ p ∈ X.pn ++ pins, p.1 ≠ C
abbrev TB := St → List V → Hp → (List V → Hp → Prop) → Prop
def turnB (E : Expr) (d : Nat) (tg it : Expr) (ifs : List Expr) (body : Sem PySem.Fin) (itv acc : Value) (env : Env) : Sem PySem.Fin := do
  standAt it.pos
  let r ← pyNext itv
  match r with
   | none => pure (Fin.done Flow.next)
   | some v => do
    letOwnedTupleGo tg itv v
    assign tg env v
    let ok ← forIn ifs true fun c r => if r = true then do let ok ← PySem.isTrue c env (eval c env); pure (ForInStep.yield ok) else pure (ForInStep.yield r)
    if ok = true then body else again (Code.compLoop E d itv acc env)
def bodyL (E : Expr) (d : Nat) (elt : Expr) (itv acc : Value) (env : Env) : Sem PySem.Fin := do
  let _ ← (do
   let x ← eval elt env
   let _ ← call (Value.builtin "list.append") [acc, x]
   pure ())
  again (Code.compLoop E d itv acc env)
abbrev loopsTo (M : Model) (A : Around) (E : Expr) (d : Nat) (itv acc : Value) (env : Env) (body : Sem PySem.Fin) (P : Shared → Prop) (s : Shared) : Prop := wpAny M A body (fun fin s' => fin = .again (.compLoop E d itv acc env) ∧ P s') (fun _ _ => False) s
section
variable {prog : Program} {w : World} {A : Around} {R : Result → Shared → Prop} {s : Shared} {e0 tg it elt it2 : Expr} {gs : List Comprehension} {ifs : List Expr} {sc : Scope} {ps : Pos} {itv acc : Value} {env : Env} {d : Nat} {body : Sem PySem.Fin} {P : Shared → Prop}
theorem bodyL_ok {E : Expr} (h : wpAny (model prog w) A (eval elt env) (fun x s₄ => wpAny (model prog w) A (call (.builtin "list.append") [acc, x]) (fun _ s₅ => P s₅) (fun _ _ => False) s₄) (fun _ _ => False) s) : loopsTo (model prog w) A E d itv acc env (bodyL E d elt itv acc env) P s :=
 wpAny_bind (wpAny_bind (wpAny_mono h (fun x s₄ h₄ => wpAny_bind (wpAny_mono h₄ (fun _ s₅ h₅ => wpAny_pure (wpAny_pure ⟨rfl, h₅⟩)) fun _ _ h' => h'.elim)) fun _ _ h' => h'.elim))
theorem loopB (ht : compTurn (.ListComp e0 gs sc ps) d itv acc env = turnB (.ListComp e0 gs sc ps) d tg it ifs body itv acc env) (I : Nat → Shared → Prop)
  (turn : ∀ n s, I n s → wpAny (model prog w) A (pyNext itv) (fun r s₁ => match r with
   | none => R (.ok .next) s₁
   | some v => wpAny (model prog w) A (letOwnedTupleGo tg itv v) (fun _ s₁' => wpAny (model prog w) A (assign tg env v) (fun _ s₂ =>
     wpAny (model prog w) A (forIn ifs true fun c r => if r = true then do let ok ← isTrue c env (eval c env); pure (ForInStep.yield ok) else pure (ForInStep.yield r)) (fun ok s₃ =>
      if ok = true then loopsTo (model prog w) A (.ListComp e0 gs sc ps) d itv acc env body (fun s₅ => ∃ m, m < n ∧ I m s₅) s₃
      else ∃ m, m < n ∧ I m s₃) (fun _ _ => False) s₂) (fun _ _ => False) s₁') (fun _ _ => False) s₁) (fun _ _ => False) s)
  (n : Nat) (h : I n s) : codeAny (model prog w) A (.compLoop (.ListComp e0 gs sc ps) d itv acc env) R s := by
 refine codeAny_loop rfl I (fun n s hI => ?_) n h
 show wpAny _ A ((compTurn (.ListComp e0 gs sc ps) d itv acc env).onRaise (fun x => do noteFrame x env; theTreesLotGoes x)) _ _ s
 refine wpAny_noted ?_
 rw [ht]
 unfold turnB
 refine wpAny_bind (wpAny_standAt (wpAny_bind (wpAny_mono (turn n s hI) (fun r s₁ h₁ => ?_) fun _ _ h' => h'.elim)))
 cases r with
 | none => exact wpAny_pure h₁
 | some v =>
  refine wpAny_bind (wpAny_mono h₁ (fun _ s₁' h₁' => ?_) fun _ _ h' => h'.elim)
  refine wpAny_bind (wpAny_mono h₁' (fun _ s₂ h₂ => wpAny_bind (wpAny_mono h₂ (fun ok s₃ h₃ => ?_) fun _ _ h' => h'.elim)) fun _ _ h' => h'.elim)
  cases ok with
  | false => exact wpAny_pure ⟨rfl, h₃⟩
  | true => exact wpAny_mono h₃ (fun fin s₅ ⟨e, q⟩ => by subst e; exact ⟨rfl, q⟩) fun _ _ h' => h'.elim
end
structure AccOk (Y : Cx) (a : Addr) : Prop where
 loc : a ≠ Y.env.locals
 fs : a ∉ Y.fs
 sz : a ∈ Y.ex ∨ Y.s₀.heap.objs.size ≤ a
 cell : ∀ x c, Y.env.cells.lookup x = some c → c ≠ a
 pn : Y.pn = []
 calm : Y.calm = true
abbrev lobj (its : List Value) (k : Nat) : Obj := { cls := .type "list", data := .seq its.toArray k }
structure Grown (Y : Cx) (a : Addr) (PB : List (Addr × Obj)) (σ : St) (zs : List V) (H : Hp) (s : Shared) : Prop where
 inv : Inv Y PB σ H s
 no : H a = none
 len : zs.length ≤ sizeLine
 at' : ∃ its k, s.heap.get? a = some (lobj its k) ∧ Vals zs its
theorem Grown.pin {Y : Cx} {a : Addr} {PB : List (Addr × Obj)} {σ : St} {zs : List V} {H : Hp} {s : Shared} {its : List Value} {k : Nat} (A : AccOk Y a) (g : Grown Y a PB σ zs H s) (e : s.heap.get? a = some (lobj its k)) : Inv Y ((a, lobj its k) :: PB) σ H s :=
 g.inv.pins_of fun p hp => by
  rcases List.mem_cons.mp hp with rfl | hp
  ·exact ⟨e, g.no, A.loc, A.fs, fun v z => by
    have z' : Data.seq its.toArray k = Data.cell v := z
    cases z'⟩
  ·exact g.inv.pin p (List.mem_append_right _ hp)
theorem Inv.grown {Y : Cx} {a : Addr} {PB : List (Addr × Obj)} {σ : St} {zs : List V} {H : Hp} {s : Shared} {its : List Value} {k : Nat} (I : Inv Y ((a, lobj its k) :: PB) σ H s) (hz : zs.length ≤ sizeLine) (v : Vals zs its) : Grown Y a PB σ zs H s := by
 have q := I.pin (a, lobj its k) (List.mem_append_right _ List.mem_cons_self)
 exact ⟨I.pins_of fun p hp => I.pin p (List.mem_append_right _ (List.mem_cons_of_mem _ hp)), q.2.1, hz, its, k, q.1, v⟩
def zLt : List V → Prop → Prop := fun zs p => zs.length < sizeLine ∧ p
def BodyOk (Y : Cx) (a : Addr) (E : Expr) (d : Nat) (body : Value → Sem PySem.Fin) (C : List V → Prop) (B : TB) : Prop :=
 ∀ (jt : Value) (PB : List (Addr × Obj)) (σ : St) (zs : List V) (H : Hp) (s : Shared) (N : List V → Hp → Prop) (P : Shared → Prop), (∀ p ∈ PB, p.1 ≠ a) → Grown Y a PB σ zs H s → C zs → B σ zs H N → (∀ zs' H' s', Grown Y a PB σ zs' H' s' → N zs' H' → P s') → loopsTo (model Y.prog Y.w) Y.A E d jt (.ref a) Y.env (body jt) P s
theorem loop_ok {e0 tg it : Expr} {gs : List Comprehension} {ifs : List Expr} {sc : Scope} {ps : Pos} {d m0 : Nat} {Y : Cx} {a jt : Addr} {PB : List (Addr × Obj)} {g : TG} {tt : TT} {B : TB} {C : List V → Prop} {Z : List V → Prop → Prop} {body : Value → Sem PySem.Fin} {fp : List Addr} {tn : Nat → Heap → Prop} {J : It} {W : Nat → Nat → List V → Hp → Prop} {σ : St} {ys : List V} {H : Hp} {s : Shared} {N : List V → Hp → Prop} {R : Result → Shared → Prop}
  (A : AccOk Y a) (hPB : ∀ p ∈ PB, p.1 ≠ a) (ht : ∀ itv, compTurn (.ListComp e0 gs sc ps) d itv (.ref a) Y.env = turnB (.ListComp e0 gs sc ps) d tg it ifs (body itv) itv (.ref a) Y.env) (hx : Y.xe = fun _ _ => False) (hg : PG Y tg g) (htt : PTs Y ifs tt) (hb : BodyOk Y a (.ListComp e0 gs sc ps) d body C B) (hZ : ∀ zs p, Z zs p → C zs ∧ p)
  (T : Turn Y.prog Y.w Y.K tg J fp jt tn) (na : ∀ b ∈ fp, b ≠ a) (fpY : ∀ {o : Obj} {H' : Hp}, (∀ b ∈ fp, H' b = none) → ∀ b ∈ fp, FpOk Y ((a, o) :: PB) H' b) (st : tn 0 s.heap) (gr : Grown Y a PB σ ys H s) (hn : ∀ b ∈ fp, H b = none) (w0 : W 0 m0 ys H)
  (turn : ∀ j m zs H, W j m zs H → (J.stop j H ∧ N zs H) ∨ (J.go j H ∧ Z zs (∃ N2 : List V → Hp → Prop, (∀ zs' H', N2 zs' H' → ∃ m', m' < m ∧ W (j + 1) m' zs' H') ∧ ∀ x H', J.yld j H x H' → g x σ H' fun σ3 H2 => Keep σ σ3 ∧ tt σ3 H2 fun b H3 => br b (B σ3 zs H3 N2) (N2 zs H3))))
  (back : ∀ zs H' s', Grown Y a PB σ zs H' s' → N zs H' → R (.ok .next) s') : codeAny (model Y.prog Y.w) Y.A (.compLoop (.ListComp e0 gs sc ps) d (.ref jt) (.ref a) Y.env) R s := by
 refine loopB (ht _) (fun n' s' => ∃ (j : Nat) (zs : List V) (H' : Hp), Grown Y a PB σ zs H' s' ∧ tn j s'.heap ∧ (∀ b ∈ fp, H' b = none) ∧ W j n' zs H') ?_ m0 ⟨0, ys, H, gr, st, hn, w0⟩
 rintro n' s12 ⟨j, zs, H12, g12, st12, fr12, w12⟩
 obtain ⟨its', k', e12, v12⟩ := g12.at'
 have I12 := g12.pin A e12
 rcases turn j n' zs H12 w12 with ⟨stop, q⟩ | ⟨go2, hz0⟩
 ·refine thn (T.done Y rfl rfl rfl A.calm j _ s12 _ H12 _ I12 (fpY fr12) st12 stop) fun r s13 ⟨hr, I13⟩ => ?_
  subst hr
  exact back zs H12 s13 (Inv.grown I13 g12.len v12) q
 ·obtain ⟨hC, N2, hN2, step2⟩ := hZ _ _ hz0
  refine thn (T.item Y rfl rfl rfl A.calm j _ s12 _ H12 _ I12 (fpY fr12) st12 go2) fun r s13 ⟨u2, hr, h13⟩ => ?_
  subst hr
  refine thn h13 fun _ s14 ⟨x2, H14, I14, r14, y14, st14, fr14⟩ => ?_
  have I14' := I14.pinned (fpY fr14) (T.obj _ _ st14)
  have hgY := hg _ s14 _ H14 x2 u2 _ I14' r14 (step2 x2 H14 y14)
  rw [hx] at hgY
  refine thn hgY fun _ s15 ⟨σ15, H15, I15, kp2, q15⟩ => ?_
  have htY := htt _ s15 σ15 H15 _ I15 q15
  rw [hx] at htY
  refine thn htY fun b2 s16 ⟨H16, I16, q16⟩ => ?_
  have pn : ∀ p ∈ PB ++ pinsAt fp s14.heap, p.1 ≠ a := fun p hp => by
   rcases List.mem_append.mp hp with hp | hp
   ·exact hPB p hp
   ·exact na p.1 (of_pinsAt hp).1
  have back2 : ∀ {σ' : St} {zs' : List V} {H' : Hp} {s' : Shared}, Keep σ σ' → Grown Y a (PB ++ pinsAt fp s14.heap) σ' zs' H' s' → N2 zs' H' → ∃ m, m < n' ∧ ∃ (j : Nat) (zs : List V) (H' : Hp), Grown Y a PB σ zs H' s' ∧ tn j s'.heap ∧ (∀ b ∈ fp, H' b = none) ∧ W j m zs H' := fun {σ' zs' H' s'} kp G n2 => by
   obtain ⟨m', hm, w16⟩ := hN2 _ _ n2
   refine ⟨m', hm, j + 1, zs', H', ⟨(G.inv.pins_of fun p hp => G.inv.pin p (List.mem_append_right _ (List.mem_append_left _ hp))).weak (by rw [kp.len]) fun i v e => kp.get e, G.no, G.len, G.at'⟩, T.keep _ _ _ st14 fun b hb o e => (G.inv.pin (b, o) (List.mem_append_right _ (List.mem_append_right _ (mem_pinsAt hb e)))).1, fun b hb => ?_, w16⟩
   obtain ⟨o, e, d⟩ := T.obj _ _ st14 b hb
   exact (G.inv.pin (b, o) (List.mem_append_right _ (List.mem_append_right _ (mem_pinsAt hb e)))).2.1
  have g16 : Grown Y a (PB ++ pinsAt fp s14.heap) σ15 zs H16 s16 := Inv.grown I16 g12.len v12
  cases b2 with
  | false =>
   rw [if_neg Bool.false_ne_true]
   exact back2 kp2 g16 (q16.2 rfl)
  | true =>
   rw [if_pos rfl]
   exact hb _ _ _ _ _ _ _ _ pn g16 hC (q16.1 rfl) fun zs' H' s' G n2 => back2 kp2 G n2
def bLast (te : TE) : TB := fun σ zs H N => te σ H fun y H4 => N (zs ++ [y]) H4
theorem body_last {Y : Cx} {a : Addr} {E elt : Expr} {d : Nat} {te : TE} (A : AccOk Y a) (hx : Y.xe = fun _ _ => False) (he : PE Y elt te) : BodyOk Y a E d (fun jt => bodyL E d elt jt (.ref a) Y.env) (fun zs => zs.length < sizeLine) (bLast te) := by
 intro jt PB σ zs H s N P hPB gr zlt h back
 obtain ⟨its', k', e12, v12⟩ := gr.at'
 have I16 := gr.pin A e12
 have heY := he _ s σ H _ I16 h
 rw [hx] at heY
 refine bodyL_ok (thn heY fun yv s17 ⟨y, H17, I17, r17, n17⟩ => ?_)
 have gI := Inv.grown I17 gr.len v12
 have b4 := (I17.pin (a, lobj its' k') (List.mem_append_right _ List.mem_cons_self)).1
 have hl := v12.length
 refine call_meets F.slot_list_append ⟨_, b4, rfl⟩ F.entry_list_append (F.args_list_append_2 _ _) (PySem.list_append a its'.toArray k' yv (by rw [List.size_toArray]; omega)) ⟨b4, ?_⟩
 have q := PySem.IsL.update b4 (fun a => a.push yv)
 have eqp : its'.toArray.push yv = (its' ++ [yv]).toArray := by simp
 rw [eqp] at q
 have I18 : Inv Y PB σ H17 { s17 with heap := s17.heap.update a (Obj.mapSeq fun a => a.push yv), toks := s17.toks } :=
  gI.inv.turned (it := a) (fun b o hb e => (Heap.get?_update_other s17.heap _ (Ne.symm hb)).trans e) gI.no A.loc A.sz A.cell fun p hp z => by
   rw [A.pn, List.nil_append] at hp
   exact hPB p hp z
 exact back (zs ++ [y]) H17 _ ⟨I18, gI.no, by rw [List.length_append, List.length_singleton]; omega, its' ++ [yv], _, q, v12.append (.cons r17 .nil)⟩ n17
theorem comp_gen {X : Cx} {tg iter e0 : Expr} {gs : List Comprehension} {ifs : List Expr} {scope : Scope} {pos pos' : Pos} {wi : TI} {g : TG} {tt : TT} {Bt : TB} {Cd : List V → Prop} (Z : List V → Prop → Prop) {N' : List Str} {cap : List (Option Nat)} {use : Option (Value → Sem Unit)} {Q' : Value → Shared → Prop} {body : Value → Value → Env → Sem PySem.Fin}
  {pins : List (Addr × Obj)} {s : Shared} {σ : St} {H : Hp} {Q : List V → Hp → Prop}
  (hc : X.calm = true) (hi : PI X tg iter wi) (B : BlockScope X.env.scope X.N scope N' cap) (hg : ∀ s H ex C, PG (blockCx X N' scope s H ex C) tg g) (ht : ∀ s H ex C, PTs (blockCx X N' scope s H ex C) ifs tt)
  (htn : ∀ itv acc env, compTurn (.ListComp e0 (⟨tg, iter, ifs, 0⟩ :: gs) scope pos) 0 itv acc env = turnB (.ListComp e0 (⟨tg, iter, ifs, 0⟩ :: gs) scope pos) 0 tg iter ifs (body itv acc env) itv acc env)
  (hbd : ∀ s H ex C a, AccOk (blockCx X N' scope s H ex C) a → BodyOk (blockCx X N' scope s H ex C) a (.ListComp e0 (⟨tg, iter, ifs, 0⟩ :: gs) scope pos) 0 (fun itv => body itv (.ref a) (blockCx X N' scope s H ex C).env) Cd Bt) (hZ : ∀ zs p, Z zs p → Cd zs ∧ p)
  (hs : ∀ x, foldedSetIterable iter X.env x = pure x) (I : Inv X pins σ H s)
  (h : wi σ H fun J H1 => ∃ W : Nat → Nat → List V → Hp → Prop, (∃ m, W 0 m [] H1) ∧ ∀ i m ys H, W i m ys H → (J.stop i H ∧ Q ys H) ∨ (J.go i H ∧ Z ys (∃ N : List V → Hp → Prop, (∀ ys' H', N ys' H' → ∃ m', m' < m ∧ W (i + 1) m' ys' H') ∧ ∀ x H', J.yld i H x H' → g x (capOf cap σ) H' fun σ2 H2 => Keep (capOf cap σ) σ2 ∧ tt σ2 H2 fun b H3 => br b (Bt σ2 ys H3 N) (N ys H3))))
  (fin : ∀ (acc C : Addr) (H : Hp) (ys : List V) (s' : Shared), H acc = none → Inv X pins σ (upd H acc (.lst ys)) s' → Left X pins C (upd H acc (.lst ys)) s' → Q ys H → compPost (model X.prog X.w) X.A X.xe use Q' (.ref acc) C (.ok .next) s') :
  wpAny (model X.prog X.w) X.A (comprehension (.ListComp e0 (⟨tg, iter, ifs, 0⟩ :: gs) scope pos) scope X.env pos' (newList []) false (eval iter X.env) use) Q' X.xe s := by
 have hclos : closureFor scope X.env = pure (clo X.env.cells scope.names []) := closureFor_eq fun y hy hf => I.ok.has y.1 (B.free y hy hf)
 refine wpAny_comprehension_free (cl := clo X.env.cells scope.names []) rfl hs hclos B.kind B.names (thn (hi pins s σ H _ I h) fun v s1 h1 => thn h1 fun itv s2 h2 => ?_)
 obtain ⟨it, fp, tn, J, H2, e, I2, T, st2, f2, W, ⟨m0, w0⟩, turn⟩ := h2
 subst e
 refine wpAny_newObj_type (newBlock ?_)
 dsimp only
 generalize hH3 : s2.heap.push { cls := .type "list", dict := none, data := .seq ([] : List Value).toArray } = h3
 have hsz3 : h3.objs.size = s2.heap.objs.size + 1 := by rw [← hH3]; exact Heap.size_push ..
 have hk3 : ∀ b o, s2.heap.get? b = some o → h3.get? b = some o := fun b o e => by rw [← hH3]; exact Heap.get?_push_of_some _ e
 have hacc3 : h3.get? s2.heap.objs.size = some { cls := .type "list", data := .seq ([] : List Value).toArray } := by rw [← hH3]; exact Heap.get?_push_size _ rfl
 have hlt : ∀ b ∈ fp, b < s2.heap.objs.size := fun b hb => let ⟨o, e, _⟩ := T.obj _ _ st2 b hb; Heap.lt_size e
 have I4 := block_start I2 B f2 hlt hk3 (by rw [hsz3]; exact Nat.le_succ _)
 have acc4 : (pushCells (h3.push { cls := .type "dict", data := .dict #[] }) scope.names).get? s2.heap.objs.size = some { cls := .type "list", data := .seq ([] : List Value).toArray } := pushCells_keeps _ _ _ _ (Heap.get?_push_of_some _ hacc3)
 have st4 : tn 0 (pushCells (h3.push { cls := .type "dict", data := .dict #[] }) scope.names) := T.keep _ _ _ st2 fun b _ o e => pushCells_keeps _ _ _ _ (Heap.get?_push_of_some _ (hk3 b o e))
 have haC : s2.heap.objs.size ≠ h3.objs.size := by rw [hsz3]; exact Nat.ne_of_lt (Nat.lt_succ_self _)
 have haN : s2.heap.objs.size ∉ frs X.stack := fun z => by
  rcases List.mem_cons.mp (I2.stkSub _ z) with q | q
  ·exact absurd I2.lt (by rw [← q]; exact Nat.lt_irrefl _)
  ·exact I2.nofs (Nat.le_refl _) q
 have okY := I4.ok
 have fpY : ∀ {pins' : List (Addr × Obj)} {H' : Hp}, (∀ b ∈ fp, H' b = none) → (∀ p ∈ pins', p.1 = s2.heap.objs.size) → ∀ b ∈ fp, FpOk (blockCx X N' scope s2 H2 fp h3.objs.size) pins' H' b := fun {pins' H'} hn hp b hb =>
  ⟨hn b hb, (okY.exf b hb).1, okY.exfs b hb, .inl hb, (okY.exf b hb).2, fun p z e => by
   have z' : p ∈ pins' := z
   have := hlt b hb
   rw [← e, hp p z'] at this
   exact Nat.lt_irrefl _ this⟩
 have cellNe : ∀ x c, (blockCx X N' scope s2 H2 fp h3.objs.size).env.cells.lookup x = some c → c ≠ s2.heap.objs.size := fun x c ec z => by
  rcases from_look scope.names (h3.objs.size + 1) _ ec with q' | q'
  ·rw [z, hsz3] at q'
   exact absurd q' (by omega)
  ·have ec' : X.env.cells.lookup x = some c := (clo_look _ _ q').elim id fun z => nomatch z
   obtain ⟨_, q''⟩ := I2.cell x c ec'
   have := q''.lt
   rw [z] at this
   exact Nat.lt_irrefl _ this
 have loop : ∀ s4 : Shared, s4 = { s2 with heap := pushCells (h3.push { cls := .type "dict", data := .dict #[] }) scope.names } →
   codeAny (model X.prog X.w) X.A (.compLoop (.ListComp e0 (⟨tg, iter, ifs, 0⟩ :: gs) scope pos) 0 (.ref it) (.ref s2.heap.objs.size) (blockEnv scope X.env h3.objs.size)) (compPost (model X.prog X.w) X.A X.xe use Q' (.ref s2.heap.objs.size) h3.objs.size) s4 := by
  rintro s4 rfl
  have A0 : AccOk (blockCx X N' scope s2 H2 fp h3.objs.size) s2.heap.objs.size := ⟨haC, haN, .inr (Nat.le_refl _), cellNe, rfl, hc⟩
  refine loop_ok (Y := blockCx X N' scope s2 H2 fp h3.objs.size) (PB := []) (W := W) A0 (fun p hp => absurd hp (by simp)) (fun _ => htn _ _ _) rfl (hg _ _ _ _) (ht _ _ _ _) (hbd _ _ _ _ _ A0) hZ T (fun b hb z => absurd (hlt b hb) (by rw [z]; exact Nat.lt_irrefl _))
   (fun {o H'} hn b hb => fpY hn (fun p hp => by rw [List.mem_singleton.mp hp]) b hb) st4 ⟨I4, I2.hok.fresh (Nat.le_refl _), Nat.zero_le _, [], 0, acc4, .nil⟩ (fun b hb => (f2 b hb).1) w0 turn fun ys H5 s6 G q => ?_
  obtain ⟨its, k, e6, v5⟩ := G.at'
  have fa5 := G.no
  have z5 := G.len
  have I6 := G.inv
  have nacc : ∀ b u, H5 b = some u → b ≠ s2.heap.objs.size := fun b u q z => by rw [z, fa5] at q; cases q
  have un : Un (frs X.stack) fp H2 (upd H5 s2.heap.objs.size (.lst ys)) s2.heap s6.heap := by
   have u := I6.base
   refine ⟨u.keep, u.slot, fun b o q n hx => ?_, u.there, fun b xs q => ?_, fun b o xs q => ?_, fun b ps q => ?_⟩
   ·rw [upd_ne (Nat.ne_of_lt (Heap.lt_size q))]
    exact u.free b o q n hx
   ·have z := u.tups b xs q
    rw [upd_ne (nacc b _ z)]; exact z
   ·have z := u.frzs b o xs q
    rw [upd_ne (nacc b _ z)]; exact z
   ·obtain ⟨more, z⟩ := u.tbls b ps q
    exact ⟨more, by rw [upd_ne (nacc b _ z)]; exact z⟩
  have hok : HOk X.prog X.w (upd H5 s2.heap.objs.size (.lst ys)) s6.heap := fun b u q => by
   by_cases hb : b = s2.heap.objs.size
   ·subst hb
    rw [upd_same] at q; cases q
    exact ⟨z5, its, k, v5, e6⟩
   ·rw [upd_ne hb] at q
    have o6 : ObjOk X.prog X.w H5 s6.heap b u := I6.hok b u q
    exact o6.stay (fun _ _ _ e => e) (fun c z => by rw [upd_ne (nacc c _ z)]; exact z) fun c xs z => by rw [upd_ne (nacc c _ z)]; exact z
  have IX : Inv X pins σ (upd H5 s2.heap.objs.size (.lst ys)) s6 := I2.call' (show s6.os = s2.os from I6.os) un hok I6.bare fun b hb => let f := f2 b hb; ⟨f.2.2.2.1, f.2.1, f.2.2.2.2.1, f.2.2.2.2.2⟩
  have hCs : s2.heap.objs.size ≤ h3.objs.size := by rw [hsz3]; exact Nat.le_succ _
  refine fin _ _ H5 ys s6 fa5 IX ⟨let ⟨m, hn, _⟩ := I6.loc; ⟨m, hn⟩, ?_, ?_, Nat.le_trans I2.sz hCs, fun x c ec z => ?_, fun p hp z => ?_⟩ q
  ·rw [upd_ne (Ne.symm haC)]; exact I6.free
  ·exact Nat.ne_of_gt (Nat.lt_of_lt_of_le I2.lt hCs)
  ·obtain ⟨_, q⟩ := I2.cell x c ec
   have := q.lt
   rw [z] at this
   exact absurd (Nat.lt_of_lt_of_le this hCs) (Nat.lt_irrefl _)
  ·have := Heap.lt_size (I2.pin p hp).1
   rw [z] at this
   exact absurd (Nat.lt_of_lt_of_le this hCs) (Nat.lt_irrefl _)
 exact codeAny_compStart_list (loop _ rfl) (T.self _ 0 _ _ _ st4 (loop _ rfl))
theorem comp_core {X : Cx} {tg iter elt : Expr} {ifs : List Expr} {scope : Scope} {pos pos' : Pos} {wi : TI} {g : TG} {tt : TT} {te : TE} {N' : List Str} {cap : List (Option Nat)} {use : Option (Value → Sem Unit)} {Q' : Value → Shared → Prop}
  {pins : List (Addr × Obj)} {s : Shared} {σ : St} {H : Hp} {Q : List V → Hp → Prop}
  (hc : X.calm = true) (hi : PI X tg iter wi) (B : BlockScope X.env.scope X.N scope N' cap) (hg : ∀ s H ex C, PG (blockCx X N' scope s H ex C) tg g) (ht : ∀ s H ex C, PTs (blockCx X N' scope s H ex C) ifs tt) (he : ∀ s H ex C, PE (blockCx X N' scope s H ex C) elt te)
  (hs : ∀ x, foldedSetIterable iter X.env x = pure x) (I : Inv X pins σ H s) (h : tComp wi cap g tt te σ H Q)
  (fin : ∀ (acc C : Addr) (H : Hp) (ys : List V) (s' : Shared), H acc = none → Inv X pins σ (upd H acc (.lst ys)) s' → Left X pins C (upd H acc (.lst ys)) s' → Q ys H → compPost (model X.prog X.w) X.A X.xe use Q' (.ref acc) C (.ok .next) s') :
  wpAny (model X.prog X.w) X.A (comprehension (.ListComp elt [⟨tg, iter, ifs, 0⟩] scope pos) scope X.env pos' (newList []) false (eval iter X.env) use) Q' X.xe s :=
 comp_gen zLt (body := fun itv acc env => bodyL (.ListComp elt [⟨tg, iter, ifs, 0⟩] scope pos) 0 elt itv acc env) (Bt := bLast te) hc hi B hg ht (fun _ _ _ => rfl) (fun s H ex C a A => body_last A rfl (he s H ex C)) (fun _ _ z => z) hs I h fin
def tCompE (wi : TI) (cap : List (Option Nat)) (g : TG) (tt : TT) (te : TE) : TE := fun σ H Q => tComp wi cap g tt te σ H fun ys H' => ∀ p, H' p = none → Q (.ref p) (upd H' p (.lst ys))
theorem pe_comp {X : Cx} {tg iter elt : Expr} {ifs : List Expr} {scope : Scope} {pos : Pos} {wi : TI} {g : TG} {tt : TT} {te : TE} (N' : List Str) (cap : List (Option Nat))
  (hc : X.calm = true) (hi : PI X tg iter wi) (B : BlockScope X.env.scope X.N scope N' cap) (hg : ∀ s H ex C, PG (blockCx X N' scope s H ex C) tg g) (ht : ∀ s H ex C, PTs (blockCx X N' scope s H ex C) ifs tt) (he : ∀ s H ex C, PE (blockCx X N' scope s H ex C) elt te)
  (hs : ∀ x, foldedSetIterable iter X.env x = pure x := by intro _; rfl) : PE X (.ListComp elt [⟨tg, iter, ifs, 0⟩] scope pos) (tCompE wi cap g tt te) := by
 intro pins s σ H Q I h
 rw [eval_ListComp]
 refine comp_core (use := none) hc hi B hg ht he hs I h fun acc C H ys s' hn I' L q => ?_
 obtain ⟨m, hm⟩ := L.ns
 refine ⟨m, hm, fun h' hsb => ⟨.ref acc, _, I'.turned (t' := s'.toks) (it := C) (fun b o hb e => hsb.extBut b o hb e) L.free L.loc (.inr L.sz) L.cell L.pin, rfl, q acc hn⟩⟩
def Walk (J : It) (cap : List (Option Nat)) (g : TG) (tt : TT) (te : TE) (σ : St) (Q : List V → Hp → Prop) (H1 : Hp) : Prop :=
 ∃ W : Nat → Nat → List V → Hp → Prop, (∃ m, W 0 m [] H1) ∧ ∀ i m ys H, W i m ys H →
  (J.stop i H ∧ Q ys H) ∨
  (J.go i H ∧ ys.length < sizeLine ∧ ∃ N : List V → Hp → Prop, (∀ ys' H', N ys' H' → ∃ m', m' < m ∧ W (i + 1) m' ys' H') ∧ ∀ x H', J.yld i H x H' → g x (capOf cap σ) H' fun σ2 H2 => Keep (capOf cap σ) σ2 ∧ tt σ2 H2 fun b H3 =>
   br b (te σ2 H3 fun y H4 => N (ys ++ [y]) H4) (N ys H3))
theorem walk_n {J : It} {cap : List (Option Nat)} {g : TG} {tt : TT} {te : TE} {σ : St} {Q : List V → Hp → Prop} {H : Hp} (n : Nat) (Pv : Nat → List V → Hp → Prop) (hn : n ≤ 100000) (h0 : Pv 0 [] H) (hz : ∀ i ys H, Pv i ys H → ys.length ≤ i)
  (hs : ∀ i ys H, i < n → Pv i ys H → J.go i H ∧ ∀ x H', J.yld i H x H' → g x (capOf cap σ) H' fun σ2 H2 => Keep (capOf cap σ) σ2 ∧ tt σ2 H2 fun b H3 => br b (te σ2 H3 fun y H4 => Pv (i + 1) (ys ++ [y]) H4) (Pv (i + 1) ys H3))
  (hd : ∀ ys H, Pv n ys H → J.stop n H ∧ Q ys H) : Walk J cap g tt te σ Q H := by
 refine ⟨fun i m ys H => m = n - i ∧ i ≤ n ∧ Pv i ys H, ⟨n, by simp, Nat.zero_le _, h0⟩, ?_⟩
 rintro i m ys H ⟨rfl, hi, p⟩
 by_cases hlt : i < n
 ·obtain ⟨a, b⟩ := hs i ys H hlt p
  refine .inr ⟨a, ?_, Pv (i + 1), fun ys' H' p' => ⟨n - (i + 1), by omega, rfl, hlt, p'⟩, b⟩
  have := hz i ys H p
  have : (100000 : Nat) < sizeLine := by decide
  omega
 ·have e : i = n := by omega
  subst e
  exact .inl (hd ys H p)
theorem walk_tup {K : PySem.W.Frag} {a : Addr} {xs : List V} {cap : List (Option Nat)} {g : TG} {tt : TT} {te : TE} {σ : St} {Q : List V → Hp → Prop} {H : Hp} (Pv : Nat → List V → Hp → Prop) (hn : xs.length ≤ 100000) (h0 : Pv 0 [] H) (hz : ∀ i ys H, Pv i ys H → ys.length ≤ i)
  (hl : ∀ i ys H, i ≤ xs.length → Pv i ys H → SqT K H a xs)
  (hs : ∀ i x ys H, xs[i]? = some x → Pv i ys H → g x (capOf cap σ) H fun σ2 H2 => Keep (capOf cap σ) σ2 ∧ tt σ2 H2 fun b H3 => br b (te σ2 H3 fun y H4 => Pv (i + 1) (ys ++ [y]) H4) (Pv (i + 1) ys H3))
  (hd : ∀ ys H, Pv xs.length ys H → Q ys H) : Walk (Itt K a) cap g tt te σ Q H :=
 walk_n xs.length Pv hn h0 hz (fun i ys H hi p => ⟨⟨xs, xs[i], hl i ys H (Nat.le_of_lt hi) p, by simp [hi]⟩, fun x H' ⟨e, y⟩ => by subst e; exact hs i x ys _ (y xs (hl i ys _ (Nat.le_of_lt hi) p)) p⟩)
  fun ys H p => ⟨⟨xs, hl _ ys H (Nat.le_refl _) p, Nat.le_refl _⟩, hd ys H p⟩
theorem walk_lst {K : PySem.W.Frag} {a : Addr} {xs : List V} {cap : List (Option Nat)} {g : TG} {tt : TT} {te : TE} {σ : St} {Q : List V → Hp → Prop} {H : Hp} (Pv : Nat → List V → Hp → Prop) (hn : xs.length ≤ 100000) (h0 : Pv 0 [] H) (hz : ∀ i ys H, Pv i ys H → ys.length ≤ i)
  (hl : ∀ i ys H, i ≤ xs.length → Pv i ys H → SqL K H a xs)
  (hs : ∀ i x ys H, xs[i]? = some x → Pv i ys H → g x (capOf cap σ) H fun σ2 H2 => Keep (capOf cap σ) σ2 ∧ tt σ2 H2 fun b H3 => br b (te σ2 H3 fun y H4 => Pv (i + 1) (ys ++ [y]) H4) (Pv (i + 1) ys H3))
  (hd : ∀ ys H, Pv xs.length ys H → Q ys H) : Walk (Itl K a) cap g tt te σ Q H :=
 walk_n xs.length Pv hn h0 hz (fun i ys H hi p => ⟨⟨xs, xs[i], hl i ys H (Nat.le_of_lt hi) p, by simp [hi]⟩, fun x H' ⟨e, y⟩ => by subst e; exact hs i x ys _ (y xs (hl i ys _ (Nat.le_of_lt hi) p)) p⟩)
  fun ys H p => ⟨⟨xs, hl _ ys H (Nat.le_refl _) p, Nat.le_refl _⟩, hd ys H p⟩
theorem walk_range {lo : Int} {n : Nat} {cap : List (Option Nat)} {g : TG} {tt : TT} {te : TE} {σ : St} {Q : List V → Hp → Prop} {H : Hp} (Pv : Nat → List V → Hp → Prop) (hn : n ≤ 100000) (h0 : Pv 0 [] H) (hz : ∀ i ys H, Pv i ys H → ys.length ≤ i)
  (hs : ∀ i ys H, i < n → Pv i ys H → g (.int (lo + i)) (capOf cap σ) H fun σ2 H2 => Keep (capOf cap σ) σ2 ∧ tt σ2 H2 fun b H3 => br b (te σ2 H3 fun y H4 => Pv (i + 1) (ys ++ [y]) H4) (Pv (i + 1) ys H3))
  (hd : ∀ ys H, Pv n ys H → Q ys H) : Walk (Itr lo n) cap g tt te σ Q H :=
 walk_n n Pv hn h0 hz (fun i ys H hi p => ⟨hi, fun x H' ⟨e, y⟩ => by subst e y; exact hs i ys _ hi p⟩) fun ys H p => ⟨Nat.le_refl _, hd ys H p⟩
end L2

end

section
namespace L2
open PySem PySem.Spec PyProof.Rows
open AutoSeq1 (wpAny_loadPart')
section
variable {prog : Program} {w : World} {A : Around} {E : Value → Shared → Prop} {s : Shared}
theorem nextT_item {it t : Addr} {i : Nat} {items : Array Value} {x : Value} {Q : Value → Shared → Prop} (hit : s.heap.IsTupleIter it t i) (ht : s.heap.IsTuple t items) (hx : items[i]? = some x)
  (hQ : ∀ h', h'.IsTupleIter it t (i + 1) → Heap.SameBut it s.heap h' → Q x { s with heap := h' }) : wpAny (model prog w) A (Builtin.SmallTypes.nextOf (.ref it)) Q E s := by
 obtain ⟨o, ho, hc, hd⟩ := id hit; obtain ⟨ol, hol, _, nl, hdl⟩ := ht; unfold Builtin.SmallTypes.nextOf
 refine wpAny_bind (wpAny_callSpecial?_slot (name := Str.ofString "__next__") hit.typeIs F.slot_tuple_iterator_next (wpAny_call_entry F.slot_tuple_iterator_next hit.typeIs F.entry_tuple_iterator_next ?_ (F.args_tuple_iterator_next_1 _)))
 show wpAny _ _ (field (.ref it) 0 >>= _) _ _ s; refine wpAny_bind (wpAny_field ho hd (x := .ref t) rfl ?_)
 show wpAny _ _ (if (Value.ref t == Value.none) = true then _ else _) _ _ s; rw [if_neg (show ¬ ((Value.ref t == Value.none) = true) from Bool.false_ne_true)]
 show wpAny _ _ (field (.ref it) 1 >>= _) _ _ s; refine wpAny_bind (wpAny_field ho hd (x := .int i 0) rfl ?_)
 show wpAny _ _ (seqItems? (.ref t) >>= _) _ _ s; refine wpAny_bind (wpAny_seqItems hol hdl ?_); simp only [Int.toNat_natCast, hx]
 refine wpAny_bind (wpAny_setField ho hd (by simp) (wpAny_pure ⟨x, rfl, wpAny_pure (hQ _ ?_ (Heap.SameBut.update ..))⟩)); exact ⟨_, Heap.get?_update_self _ ho (Obj.isFreed_of_fields (Obj.data_mapFields hd _)), (Obj.cls_mapFields ..).trans hc, by rw [Obj.data_mapFields hd]; simp [rawInt]⟩
theorem nextT_end {it t : Addr} {i : Nat} {items : Array Value} {Q : Value → Shared → Prop} (hh : A.handled = none) (hit : s.heap.IsTupleIter it t i) (ht : s.heap.IsTuple t items) (hx : items[i]? = none)
  (hE : ∀ h' e, Heap.ExtBut it s.heap h' → (∃ o, h'.get? e = some o ∧ o.cls = .type "StopIteration") → E (.ref e) { s with heap := h' }) : wpAny (model prog w) A (Builtin.SmallTypes.nextOf (.ref it)) Q E s := by
 obtain ⟨o, ho, hc, hd⟩ := id hit; obtain ⟨ol, hol, _, nl, hdl⟩ := ht; unfold Builtin.SmallTypes.nextOf
 refine wpAny_bind (wpAny_callSpecial?_slot (name := Str.ofString "__next__") hit.typeIs F.slot_tuple_iterator_next (wpAny_call_entry F.slot_tuple_iterator_next hit.typeIs F.entry_tuple_iterator_next ?_ (F.args_tuple_iterator_next_1 _)))
 show wpAny _ _ (field (.ref it) 0 >>= _) _ _ s; refine wpAny_bind (wpAny_field ho hd (x := .ref t) rfl ?_)
 show wpAny _ _ (if (Value.ref t == Value.none) = true then _ else _) _ _ s; rw [if_neg (show ¬ ((Value.ref t == Value.none) = true) from Bool.false_ne_true)]
 show wpAny _ _ (field (.ref it) 1 >>= _) _ _ s; refine wpAny_bind (wpAny_field ho hd (x := .int i 0) rfl ?_)
 show wpAny _ _ (seqItems? (.ref t) >>= _) _ _ s; refine wpAny_bind (wpAny_seqItems hol hdl ?_); simp only [Int.toNat_natCast, hx]
 refine wpAny_bind (wpAny_rule (wpAny_bind (wpAny_setField ho hd (by simp) ?_))); show wpAny _ _ (newExc (.type "StopIteration") [] >>= _) _ _ _
 refine wpAny_bind ?_; simp only [newExc, newTuple]; refine wpAny_bind (wpAny_newObj_type ?_ (by size_fits))
 refine wpAny_bind (m := firstArgMember _ _) (wpAny_of_eq (a := Value.none) (by first | rfl | (simp only [firstArgMember]; rfl)) ?_); refine wpAny_newObj_type ?_ (by size_fits); simp only [raiseNew]
 refine wpAny_bind (wpAny_handled ?_); first | rw [show A.in1.handled = none from hh] | rw [hh]
 refine wpAny_bind (wpAny_pure (wpAny_throw ?_)); exact hE _ _ (((Heap.SameBut.update ..).extBut.push _).push _) ⟨_, Heap.get?_push_size _ rfl, rfl⟩
end
structure SeqK (P : Program) (w : World) (K : PySem.W.Frag) where
 Sq : Hp → Addr → List V → Prop
 It : Heap → Addr → Addr → Nat → Prop
 Is : Heap → Addr → Array Value → Prop
 obj : Addr → Obj
 get : ∀ {X : Cx} {pins : List (Addr × Obj)} {σ : St} {H : Hp} {s : Shared} {a : Addr} {xs : List V}, X.K = K → Inv X pins σ H s → Sq H a xs → ∃ its : List Value, Vals xs its ∧ Is s.heap a its.toArray ∧ xs.length ≤ sizeLine
 inj : ∀ {X : Cx} {pins : List (Addr × Obj)} {σ : St} {H : Hp} {s : Shared} {a : Addr} {xs ys : List V}, X.K = K → Inv X pins σ H s → Sq H a xs → Sq H a ys → xs = ys
 draws : ∀ (A : Around), A.handled = none → ∀ (it l : Addr), l ≠ it → ∀ items : Array Value, Draws P w A it [it, l] items.size (fun i v => items[i]? = some v) (fun i h => It h it l i ∧ Is h l items)
 ito : ∀ {h : Heap} {it l : Addr} {i : Nat}, It h it l i → ∃ o, h.get? it = some o ∧ ∀ v, o.data ≠ .cell v
 itk : ∀ {h h' : Heap} {it l : Addr} {i : Nat}, It h it l i → (∀ o, h.get? it = some o → h'.get? it = some o) → It h' it l i
 isk : ∀ {h h' : Heap} {l : Addr} {items : Array Value}, Is h l items → (∀ o, h.get? l = some o → h'.get? l = some o) → Is h' l items
 iso : ∀ {h : Heap} {l : Addr} {items : Array Value}, Is h l items → ∃ o, h.get? l = some o
 ok : Prop
 itn : ok → ∀ (h : Heap) (l : Addr), It (h.push (obj l)) h.objs.size l 0
def seqL (P : Program) (w : World) (K : PySem.W.Frag) : SeqK P w K where
 Sq := fun H a xs => SqL K H a xs
 It := fun h it l i => h.IsListIter it l i
 Is := fun h l items => h.IsList l items
 obj := fun l => { cls := .type "list_iterator", data := .fields #[.ref l, .int 0 0] }
 get := fun {X pins σ H s a xs} hK I q => by subst hK; obtain ⟨its, r, p, z⟩ := I.list q; exact ⟨its, r, p.isList, z⟩
 inj := fun {X pins σ H s a xs ys} hK I q q' => by subst hK; exact I.list_inj q q'
 draws := fun A hh it l hne items => Draws.list hh it l hne items
 ito := fun {h it l i} ⟨o, e, c, d⟩ => ⟨o, e, fun v z => by rw [d] at z; cases z⟩
 itk := fun {h h' it l i} x k => x.at k
 isk := fun {h h' l items} x k => x.at k
 iso := fun {h l items} ⟨o, e, _⟩ => ⟨o, e⟩
 ok := True
 itn := fun _ h l => ⟨_, Heap.get?_push_size _ rfl, rfl, rfl⟩
def seqT (P : Program) (w : World) (K : PySem.W.Frag) : SeqK P w K where
  Sq := fun H a xs => SqT K H a xs
  It := fun h it l i => h.IsTupleIter it l i
  Is := fun h l items => h.IsTuple l items
  obj := fun l => { cls := .type "tuple_iterator", data := .fields #[.ref l, .int 0 0] }
  get := fun {X pins σ H s a xs} hK I q => by subst hK; obtain ⟨its, r, p, z⟩ := I.tuple q; exact ⟨its, r, p, z⟩
  inj := fun {X pins σ H s a xs ys} hK I q q' => by subst hK; exact I.tuple_inj q q'
  draws := fun A hh it l hne items =>
    { live := fun _ _ st => let ⟨o, ho, _⟩ := st.1; ⟨o, ho⟩
      frame := fun _ _ _ st hk => ⟨let ⟨o, e, r⟩ := st.1; ⟨o, hk it (by simp) o e, r⟩, let ⟨o, e, r⟩ := st.2; ⟨o, hk l (by simp) o e, r⟩⟩
      item := fun i s Q E hi st hQ => nextT_item st.1 st.2 (x := items[i]) (by simp [hi]) fun h' hit' hs' => hQ _ h' s.toks (by simp [hi]) ⟨hit', st.2.extBut hs'.extBut hne⟩ hs'
      done := fun s Q E st hE => nextT_end hh st.1 st.2 (by simp) hE }
  ito := fun {h it l i} ⟨o, e, c, d⟩ => ⟨o, e, fun v z => by rw [d] at z; cases z⟩
  itk := fun {h h' it l i} ⟨o, e, r⟩ k => ⟨o, k o e, r⟩
  isk := fun {h h' l items} ⟨o, e, r⟩ k => ⟨o, k o e, r⟩
  iso := fun {h l items} ⟨o, e, _⟩ => ⟨o, e⟩
  ok := True
  itn := fun _ h l => ⟨_, Heap.get?_push_size _ rfl, rfl, rfl⟩
end L2

end

section
namespace L2
open PySem PySem.Spec PyProof.Rows
open AutoSeq1 (wpAny_loadPart')
theorem Inv.yielded {X : Cx} {pins : List (Addr × Obj)} {σ : St} {H : Hp} {s : Shared} {wr : List Addr} {h' : Heap} {tk : Nat} {T : Addr} {vs : List V} {us : List Value} (I : Inv X pins σ H s) (hf : ∀ b ∈ wr, FpOk X pins H b)
  (k : ∀ b o, b ∉ wr → s.heap.get? b = some o → h'.get? b = some o) (hT : s.heap.objs.size ≤ T) (ht : IsTup h' T us.toArray) (rv : Vals vs us) (hz : vs.length ≤ sizeLine) :
  Inv X pins σ (upd H T (.tup vs)) { s with heap := h', toks := tk } := by
 have hfr : H T = none := I.hok.fresh hT
 have nT : ∀ b u, H b = some u → b ≠ T := fun b u e => ne_of_none e hfr
 have nW : ∀ b u, H b = some u → b ∉ wr := fun b u e z => by have := (hf b z).1; rw [e] at this; cases this
 refine I.step (g' := s.gens) (d' := s.drawn) (ch := wr) (fun b hb => let f := hf b hb; ⟨f.2.2.2.1, f.2.1, f.2.2.2.2.1, f.2.2.2.2.2⟩) (fun b o _ _ hc e _ => k b o hc e) (fun b o _ _ hc e _ => ⟨o.slots, k b o hc e⟩)
  (fun b o hc e n => ?_) (fun b o hc e => ⟨o, k b o hc e⟩) (fun b xs e => by rw [upd_ne (nT b _ e)]; exact e) (fun b o xs e => by rw [upd_ne (nT b _ e)]; exact e) (fun b ps e => ⟨#[], by rw [upd_ne (nT b _ e), e]; simp⟩) (fun m hm => ?_) (fun b u e => ?_) I.bare
 ·rw [upd_ne (Nat.ne_of_lt (Nat.lt_of_lt_of_le (Heap.lt_size e) hT))]; exact n
 ·obtain ⟨o, es, ep, ho, r⟩ := hm
  exact ⟨o, es, ep, k _ o (fun z => (hf _ z).2.1 rfl) ho, r⟩
 ·by_cases hb : b = T
  ·subst hb
   rw [upd_same] at e; cases e
   exact ⟨hz, us, rv, ht⟩
  ·rw [upd_ne hb] at e
   refine (I.hok b u e).stay (fun c v hc q => k c v ?_ q) (fun c q => by rw [upd_ne (nT c _ q)]; exact q) fun c xs q => by rw [upd_ne (nT c _ q)]; exact q
   rcases hc with z | z
   ·rw [z]; exact nW b u e
   ·exact nW c _ z
theorem Inv.ended {X : Cx} {pins : List (Addr × Obj)} {σ : St} {H : Hp} {s : Shared} {wr : List Addr} {h' : Heap} {tk : Nat} (I : Inv X pins σ H s) (hf : ∀ b ∈ wr, FpOk X pins H b)
  (k : ∀ b o, b ∉ wr → s.heap.get? b = some o → h'.get? b = some o) : Inv X pins σ H { s with heap := h', toks := tk } := by
 have nW : ∀ b u, H b = some u → b ∉ wr := fun b u e z => by have := (hf b z).1; rw [e] at this; cases this
 refine I.step (g' := s.gens) (d' := s.drawn) (ch := wr) (fun b hb => let f := hf b hb; ⟨f.2.2.2.1, f.2.1, f.2.2.2.2.1, f.2.2.2.2.2⟩) (fun b o _ _ hc e _ => k b o hc e) (fun b o _ _ hc e _ => ⟨o.slots, k b o hc e⟩)
  (fun b o hc e n => n) (fun b o hc e => ⟨o, k b o hc e⟩) (fun b xs e => e) (fun b o xs e => e) (fun b ps e => ⟨#[], by rw [e]; simp⟩) (fun m hm => ?_) (fun b u e => ?_) I.bare
 ·obtain ⟨o, es, ep, ho, r⟩ := hm
  exact ⟨o, es, ep, k _ o (fun z => (hf _ z).2.1 rfl) ho, r⟩
 ·refine (I.hok b u e).stay (fun c v hc q => k c v ?_ q) (fun c q => q) fun c xs q => q
  rcases hc with z | z
  ·rw [z]; exact nW b u e
  ·exact nW c _ z
end L2

end

section
namespace L2
open PySem PySem.Spec PyProof.Rows
open AutoSeq1 (wpAny_loadPart')
def Dr {P : Program} {w : World} {K : PySem.W.Frag} (S : SeqK P w K) (it l : Addr) (xs : Array Value) (k : Nat) (h : Heap) : Prop := S.It h it l k ∧ S.Is h l xs
theorem Dr.ext {P : Program} {w : World} {K : PySem.W.Frag} {S : SeqK P w K} {it l b : Addr} {xs : Array Value} {k : Nat} {h h' : Heap} (d : Dr S it l xs k h) (e : Heap.ExtBut b h h') (h1 : it ≠ b) (h2 : l ≠ b) : Dr S it l xs k h' :=
 ⟨S.itk d.1 fun o q => e it o h1 q, S.isk d.2 fun o q => e l o h2 q⟩
abbrev IsZipF (h : Heap) (z TI TO : Addr) (f0 f1 : Value) : Prop := h.get? z = some { cls := .type "zip", dict := none, data := .fields #[f0, f1, .bool false, .ref TI, .ref TO], slots := #[] }
def ZipAny (h : Heap) (z TI TO : Addr) : Prop := ∃ f0 f1, IsZipF h z TI TO f0 f1 ∧ (f0 = .none ∨ ∃ T : Addr, f0 = rawInt T) ∧ (f1 = .bool false ∨ f1 = .bool true)
theorem wpAny_alive {M : Model} {A : Around} {E : Value → Shared → Prop} {s : Shared} {a : Addr} {Q : Option Obj → Shared → Prop} (h : Q (s.heap.get? a) s) : wpAny M A (loadIfAlive a) Q E s := fun _ _ _ => h
theorem own_is {P : Program} {w : World} {A : Around} {E : Value → Shared → Prop} {s : Shared} {z TI TO : Addr} {Q : Bool → Shared → Prop} (hz : ZipAny s.heap z TI TO) (h1 : ∀ f0 f1, IsZipF s.heap z TI TO f0 f1 → Q true s)
  (h2 : ∀ g0, ∀ T : Addr, ∀ f1 f2, IsZipF s.heap z TI TO (rawInt T) f1 → IsZipF g0 z TI TO (rawInt T) f2 → (f2 = .bool false ∨ f2 = .bool true) → Heap.SameBut z s.heap g0 → Q false { s with heap := g0 }) :
  wpAny (model P w) A (Builtin.SmallTypes.ownedTupleIsFree (.ref z)) Q E s := by
 obtain ⟨f0, f1, hz, hf0, hf1⟩ := hz
 unfold Builtin.SmallTypes.ownedTupleIsFree
 refine wpAny_bind (wpAny_field hz rfl (x := f0) rfl ?_)
 rcases hf0 with rfl | ⟨T, rfl⟩
 ·exact wpAny_pure (h1 _ _ hz)
 ·show wpAny _ _ (loadIfAlive T >>= _) _ _ _
  refine wpAny_bind (wpAny_alive ?_)
  cases hTa : s.heap.get? T with
  | none =>
   simp only [Option.isNone_none, if_true]
   exact wpAny_pure (h1 _ _ hz)
  | some oT =>
   simp only [Option.isNone_some, Bool.false_eq_true, if_false]
   show wpAny _ _ (field (.ref z) 1 >>= _) _ _ _
   refine wpAny_bind (wpAny_field hz rfl (x := f1) rfl ?_)
   rcases hf1 with rfl | rfl
   ·exact wpAny_bind (wpAny_setField_rec hz (by simp) fun g0 hz0 hs0 => wpAny_pure (h2 g0 T _ _ hz hz0 (.inr rfl) hs0))
   ·exact wpAny_bind (wpAny_pure (wpAny_pure (h2 s.heap T _ _ hz hz (.inr rfl) ⟨rfl, fun _ _ => rfl⟩)))
structure ZA2 (z TI TO i1 i2 l1 l2 : Addr) : Prop where
 TI_z : TI ≠ z
 TO_z : TO ≠ z
 TO_TI : TO ≠ TI
 i1_z : i1 ≠ z
 i1_TI : i1 ≠ TI
 i1_TO : i1 ≠ TO
 i2_z : i2 ≠ z
 i2_TI : i2 ≠ TI
 i2_TO : i2 ≠ TO
 i2_i1 : i2 ≠ i1
 l1_z : l1 ≠ z
 l1_TO : l1 ≠ TO
 l1_i1 : l1 ≠ i1
 l1_i2 : l1 ≠ i2
 l2_z : l2 ≠ z
 l2_TO : l2 ≠ TO
 l2_i1 : l2 ≠ i1
 l2_i2 : l2 ≠ i2
abbrev IsT2 (h : Heap) (T : Addr) (a1 a2 : Value) : Prop := h.get? T = some { cls := .type "tuple", data := .seq #[a1, a2] }
theorem upd_T2 {prog : Program} {w : World} {A : Around} {E : Value → Shared → Prop} {s : Shared} {T : Addr} {a1 a2 x : Value} {k : Nat} {Q : Unit → Shared → Prop} (hT : IsT2 s.heap T a1 a2)
  (h : ∀ h', h'.get? T = some { cls := .type "tuple", data := .seq ((#[a1, a2] : Array Value).setIfInBounds k x) } → Heap.SameBut T s.heap h' → Q () { s with heap := h' }) :
  wpAny (model prog w) A (updateSeq T (·.setIfInBounds k x)) Q E s := by
 have got := Heap.get?_update_self (Obj.mapSeq fun y => y.setIfInBounds k x) hT rfl
 exact wpAny_updateSeq hT rfl (h _ (got.trans (by simp [Obj.mapSeq])) (Heap.SameBut.update ..))
section
variable {P : Program} {w : World} {K : PySem.W.Frag} {A : Around} {E : Value → Shared → Prop} {s : Shared} (S1 S2 : SeqK P w K)
theorem zipF_item2 {z TI TO i1 i2 l1 l2 : Addr} {k : Nat} {xs1 xs2 : Array Value} {x1 x2 a1 a2 : Value} {Q : Value → Shared → Prop} (hh : A.handled = none) (D : ZA2 z TI TO i1 i2 l1 l2) (hz : ZipAny s.heap z TI TO) (hTI : IsT2 s.heap TI (.ref i1) (.ref i2)) (hTO : IsT2 s.heap TO a1 a2) (h1 : Dr S1 i1 l1 xs1 k s.heap) (h2 : Dr S2 i2 l2 xs2 k s.heap) (hx1 : xs1[k]? = some x1) (hx2 : xs2[k]? = some x2)
  (hQ : ∀ h' tk, ZipAny h' z TI TO → (IsZip h' z TI TO (rawInt s.heap.objs.size) ∨ IsZip s.heap z TI TO .none → IsZip h' z TI TO (rawInt s.heap.objs.size)) → (∃ a1 a2, IsT2 h' TO a1 a2) → Dr S1 i1 l1 xs1 (k + 1) h' → Dr S2 i2 l2 xs2 (k + 1) h' → IsT2 h' s.heap.objs.size x1 x2 → h'.objs.size = s.heap.objs.size + 1 →
   (∀ c o, c ≠ z → c ≠ TO → c ≠ i1 → c ≠ i2 → s.heap.get? c = some o → h'.get? c = some o) → Q (.ref s.heap.objs.size) { s with heap := h', toks := tk }) :
  wpAny (model P w) A (Builtin.«zip.__next__» ⟨[.ref z], []⟩) (fun fin s' => ∃ v, fin = .done (.ret v) ∧ Q v s') E s := by
 have hl1 : k < xs1.size := (Array.getElem?_eq_some_iff.mp hx1).1
 have hl2 : k < xs2.size := (Array.getElem?_eq_some_iff.mp hx2).1
 have D1 := fun (A : Around) (hh : A.handled = none) => S1.draws A hh i1 l1 D.l1_i1 xs1
 have D2 := fun (A : Around) (hh : A.handled = none) => S2.draws A hh i2 l2 D.l2_i2 xs2
 obtain ⟨f0', f1', hz', hf0', hf1'⟩ := id hz
 show wpAny _ _ (field (.ref z) 2 >>= _) _ _ _; refine wpAny_bind (wpAny_field hz' rfl (x := .bool false) rfl ?_)
 show wpAny _ _ (field (.ref z) 3 >>= _) _ _ _; refine wpAny_bind (wpAny_field hz' rfl (x := .ref TI) rfl ?_)
 refine wpAny_bind (wpAny_seqItems hTI rfl ?_); show wpAny _ _ (Builtin.SmallTypes.ownedTupleIsFree (.ref z) >>= _) _ _ _
 refine wpAny_bind (own_is hz (fun f0 f1 hz => ?_) fun g0 T f1 f2 hzs hz0 hf2 hs0 => ?_)
 ·simp only [if_true]
  refine wpAny_bind (wpAny_rule ?_); refine wpAny_bind (wpAny_field hz rfl (x := .ref TO) rfl ?_)
  refine wpAny_bind (wpAny_setField_rec hz (by simp) fun g0 hz0 hs0 => ?_); replace hz0 : IsZipF g0 z TI TO .ellipsis f1 := hz0
  refine wpAny_bind ?_; simp only [List.zipIdx_cons, List.zipIdx_nil, List.forIn_cons, List.forIn_nil]
  refine wpAny_bind (wpAny_bind (wpAny_onRaise ?_)); show wpAny _ _ (Builtin.SmallTypes.nextOf (.ref i1) >>= _) _ _ _
  refine wpAny_bind ((D1 _ hh).item k _ _ _ hl1 (Dr.ext h1 hs0.extBut D.i1_z D.l1_z) fun y1 g1 tk1 hy1 hd1 hs1 => wpAny_pure ?_)
  have ex1 : y1 = x1 := by rw [hx1] at hy1; exact (Option.some.inj hy1).symm
  subst ex1
  have hd1' : Dr S1 i1 l1 xs1 (k + 1) g1 := hd1
  have hT1 : IsT2 g1 TO a1 a2 := (hs1.extBut _ _ D.i1_TO.symm (hs0.extBut _ _ D.TO_z hTO))
  refine wpAny_bind (wpAny_seqItems hT1 rfl ?_); refine wpAny_bind (upd_T2 hT1 fun g2 hU1 hs2 => ?_)
  replace hU1 : IsT2 g2 TO y1 a2 := hU1
  refine wpAny_bind (wpAny_letGo (wpAny_pure ?_))
  refine wpAny_bind (wpAny_bind (wpAny_onRaise ?_)); show wpAny _ _ (Builtin.SmallTypes.nextOf (.ref i2) >>= _) _ _ _
  refine wpAny_bind ((D2 _ hh).item k _ _ _ hl2 (Dr.ext (Dr.ext (Dr.ext h2 hs0.extBut D.i2_z D.l2_z) hs1.extBut D.i2_i1 D.l2_i1) hs2.extBut D.i2_TO D.l2_TO) fun y2 g3 tk2 hy2 hd2 hs3 => wpAny_pure ?_)
  have ex2 : y2 = x2 := by rw [hx2] at hy2; exact (Option.some.inj hy2).symm
  subst ex2
  have hd2' : Dr S2 i2 l2 xs2 (k + 1) g3 := hd2
  have hT2 : IsT2 g3 TO y1 a2 := (hs3.extBut _ _ D.i2_TO.symm hU1)
  refine wpAny_bind (wpAny_seqItems hT2 rfl ?_); refine wpAny_bind (upd_T2 hT2 fun g4 hU2 hs4 => ?_)
  replace hU2 : IsT2 g4 TO y1 y2 := hU2
  refine wpAny_bind (wpAny_letGo (wpAny_pure (wpAny_pure ?_)))
  refine wpAny_bind (wpAny_seqItems hU2 rfl ?_); refine wpAny_bind (wpAny_newTuple ?_)
  have hsz : g4.objs.size = s.heap.objs.size := by rw [hs4.1, hs3.1, hs2.1, hs1.1, hs0.1]
  have hz5 : IsZipF g4 z TI TO .ellipsis f1 := (hs4.extBut _ _ D.TO_z.symm (hs3.extBut _ _ D.i2_z.symm (hs2.extBut _ _ D.TO_z.symm (hs1.extBut _ _ D.i1_z.symm hz0))))
  have hk5 : ∀ c o, c ≠ z → c ≠ TO → c ≠ i1 → c ≠ i2 → s.heap.get? c = some o → g4.get? c = some o := fun c o cz cTO ci1 ci2 e => (hs4.extBut _ _ cTO (hs3.extBut _ _ ci2 (hs2.extBut _ _ cTO (hs1.extBut _ _ ci1 (hs0.extBut _ _ cz e)))))
  have he1 : Dr S1 i1 l1 xs1 (k + 1) g4 := (Dr.ext (Dr.ext (Dr.ext hd1' hs2.extBut D.i1_TO D.l1_TO) hs3.extBut D.i2_i1.symm D.l1_i2) hs4.extBut D.i1_TO D.l1_TO)
  have he2 : Dr S2 i2 l2 xs2 (k + 1) g4 := (Dr.ext hd2' hs4.extBut D.i2_TO D.l2_TO)
  have hzlt : z < g4.objs.size := Heap.lt_size hz5
  show wpAny _ _ (Builtin.SmallTypes.ownedTupleHandOut (.ref z) (.ref g4.objs.size) >>= _) _ _ _; refine wpAny_bind ?_; unfold Builtin.SmallTypes.ownedTupleHandOut
  have hz6 : IsZipF (g4.push { cls := .type "tuple", data := .seq #[y1, y2] }) z TI TO .ellipsis f1 := Heap.get?_push_of_some _ hz5
  refine wpAny_bind (wpAny_setField_rec hz6 (by simp) fun ga hza hsa => ?_); replace hza : IsZipF ga z TI TO (rawInt g4.objs.size) f1 := hza
  refine wpAny_setField_rec hza (by simp) fun gb hzb hsb => ?_; replace hzb : IsZipF gb z TI TO (rawInt g4.objs.size) (.bool false) := hzb
  have up : ∀ c o, c ≠ z → g4.get? c = some o → gb.get? c = some o := fun c o c1 e => hsb.extBut _ _ c1 (hsa.extBut _ _ c1 (Heap.get?_push_of_some _ e))
  have hTb : IsT2 gb g4.objs.size y1 y2 := hsb.extBut _ _ (Nat.ne_of_gt hzlt) (hsa.extBut _ _ (Nat.ne_of_gt hzlt) (Heap.get?_push_size _ rfl))
  have hsb8 : gb.objs.size = g4.objs.size + 1 := by rw [hsb.1, hsa.1, Heap.size_push]
  have upE : Heap.ExtBut z g4 gb := fun c o c1 e => up c o c1 e
  rw [hsz] at hzb hTb hsb8
  refine wpAny_pure ⟨_, rfl, ?_⟩; show Q (.ref g4.objs.size) _; rw [hsz]
  exact hQ gb _ ⟨_, _, hzb, .inr ⟨_, rfl⟩, .inl rfl⟩ (fun _ => hzb) ⟨_, _, up _ _ D.TO_z hU2⟩ (he1.ext upE D.i1_z D.l1_z) (he2.ext upE D.i2_z D.l2_z) hTb hsb8 fun c o cz cTO ci1 ci2 e => up c o cz (hk5 c o cz cTO ci1 ci2 e)
 ·simp only [Bool.false_eq_true, if_false]
  refine wpAny_bind ?_; simp only [← Array.forIn_toList, List.forIn_cons, List.forIn_nil]
  refine wpAny_bind (wpAny_bind (wpAny_holding ?_)); show wpAny _ _ (Builtin.SmallTypes.nextOf (.ref i1) >>= _) _ _ _
  refine wpAny_bind ((D1 _ hh).item k _ _ _ hl1 (Dr.ext h1 hs0.extBut D.i1_z D.l1_z) fun y1 g1 tk1 hy1 hd1 hs1 => wpAny_pure ?_)
  have ex1 : y1 = x1 := by rw [hx1] at hy1; exact (Option.some.inj hy1).symm
  subst ex1
  have hd1' : Dr S1 i1 l1 xs1 (k + 1) g1 := hd1
  refine wpAny_pure ?_
  refine wpAny_bind (wpAny_bind (wpAny_holding ?_)); show wpAny _ _ (Builtin.SmallTypes.nextOf (.ref i2) >>= _) _ _ _
  refine wpAny_bind ((D2 _ hh).item k _ _ _ hl2 (Dr.ext (Dr.ext h2 hs0.extBut D.i2_z D.l2_z) hs1.extBut D.i2_i1 D.l2_i1) fun y2 g2 tk2 hy2 hd2 hs2 => wpAny_pure ?_)
  have ex2 : y2 = x2 := by rw [hx2] at hy2; exact (Option.some.inj hy2).symm
  subst ex2
  have hd2' : Dr S2 i2 l2 xs2 (k + 1) g2 := hd2
  refine wpAny_pure (wpAny_pure ?_)
  show wpAny _ _ (newTuple [y1, y2] >>= _) _ _ _; refine wpAny_bind (wpAny_newTuple ?_)
  have hsz : g2.objs.size = s.heap.objs.size := by rw [hs2.1, hs1.1, hs0.1]
  have hz5 : IsZipF g2 z TI TO (rawInt T) f2 := (hs2.extBut _ _ D.i2_z.symm (hs1.extBut _ _ D.i1_z.symm hz0))
  have hT5 : IsT2 g2 TO a1 a2 := (hs2.extBut _ _ D.i2_TO.symm (hs1.extBut _ _ D.i1_TO.symm (hs0.extBut _ _ D.TO_z hTO)))
  have he1 : Dr S1 i1 l1 xs1 (k + 1) g2 := (Dr.ext hd1' hs2.extBut D.i2_i1.symm D.l1_i2)
  have he2 : Dr S2 i2 l2 xs2 (k + 1) g2 := hd2'
  have hTb : IsT2 (g2.push { cls := .type "tuple", data := .seq #[y1, y2] }) g2.objs.size y1 y2 := Heap.get?_push_size _ rfl
  have hb8 : (g2.push { cls := .type "tuple", data := .seq #[y1, y2] }).objs.size = g2.objs.size + 1 := Heap.size_push ..
  refine wpAny_pure ⟨_, rfl, ?_⟩; show Q (.ref g2.objs.size) _
  have res := hQ (g2.push { cls := .type "tuple", data := .seq #[y1, y2] }) tk2 ⟨_, _, Heap.get?_push_of_some _ hz5, .inr ⟨_, rfl⟩, hf2⟩ (fun c => c.elim id fun c => absurd (congrArg (fun o : Obj => o.data) (Option.some.inj (hzs.symm.trans c))) (by simp [rawInt])) ⟨_, _, Heap.get?_push_of_some _ hT5⟩ ⟨S1.itk he1.1 fun o q => Heap.get?_push_of_some _ q, S1.isk he1.2 fun o q => Heap.get?_push_of_some _ q⟩ ⟨S2.itk he2.1 fun o q => Heap.get?_push_of_some _ q, S2.isk he2.2 fun o q => Heap.get?_push_of_some _ q⟩ (by rw [← hsz]; exact hTb) (by rw [hb8, hsz]) fun c o cz cTO ci1 ci2 e => Heap.get?_push_of_some _ (hs2.extBut _ _ ci2 (hs1.extBut _ _ ci1 (hs0.extBut _ _ cz e)))
  rw [hsz]; exact res
theorem zipF_end2_1 {z TI TO i1 i2 l1 l2 : Addr} {k : Nat} {xs1 xs2 : Array Value} {a1 a2 : Value} {Q : Fin → Shared → Prop} (hh : A.handled = none) (D : ZA2 z TI TO i1 i2 l1 l2) (hz : ZipAny s.heap z TI TO) (hTI : IsT2 s.heap TI (.ref i1) (.ref i2)) (hTO : IsT2 s.heap TO a1 a2) (h1 : Dr S1 i1 l1 xs1 k s.heap) (h2 : Dr S2 i2 l2 xs2 k s.heap)  (hend : k = xs1.size)
  (hE : ∀ h' tk e, (∀ c o, c ≠ z → c ≠ TO → c ≠ i1 → c ≠ i2 → s.heap.get? c = some o → h'.get? c = some o) → (∃ o, h'.get? e = some o ∧ o.cls = .type "StopIteration") → E (.ref e) { s with heap := h', toks := tk }) :
  wpAny (model P w) A (Builtin.«zip.__next__» ⟨[.ref z], []⟩) Q E s := by
 have D1 := fun (A : Around) (hh : A.handled = none) => S1.draws A hh i1 l1 D.l1_i1 xs1
 have D2 := fun (A : Around) (hh : A.handled = none) => S2.draws A hh i2 l2 D.l2_i2 xs2
 obtain ⟨f0', f1', hz', hf0', hf1'⟩ := id hz
 show wpAny _ _ (field (.ref z) 2 >>= _) _ _ _; refine wpAny_bind (wpAny_field hz' rfl (x := .bool false) rfl ?_)
 show wpAny _ _ (field (.ref z) 3 >>= _) _ _ _; refine wpAny_bind (wpAny_field hz' rfl (x := .ref TI) rfl ?_)
 refine wpAny_bind (wpAny_seqItems hTI rfl ?_); show wpAny _ _ (Builtin.SmallTypes.ownedTupleIsFree (.ref z) >>= _) _ _ _
 refine wpAny_bind (own_is hz (fun f0 f1 hz => ?_) fun g0 T f1 f2 hzs hz0 hf2 hs0 => ?_)
 ·simp only [if_true]
  refine wpAny_bind (wpAny_rule ?_); refine wpAny_bind (wpAny_field hz rfl (x := .ref TO) rfl ?_)
  refine wpAny_bind (wpAny_setField_rec hz (by simp) fun g0 hz0 hs0 => ?_); replace hz0 : IsZipF g0 z TI TO .ellipsis f1 := hz0
  refine wpAny_bind ?_; simp only [List.zipIdx_cons, List.zipIdx_nil, List.forIn_cons, List.forIn_nil]
  refine wpAny_bind (wpAny_bind (wpAny_onRaise ?_)); show wpAny _ _ (Builtin.SmallTypes.nextOf (.ref i1) >>= _) _ _ _
  have hcur := (Dr.ext h1 hs0.extBut D.i1_z D.l1_z)
  subst hend
  refine wpAny_bind ((D1 _ hh).done _ _ _ hcur fun ge e hse he => ?_)
  obtain ⟨oe, hoe, hce⟩ := he
  have hze : IsZipF ge z TI TO .ellipsis f1 := hse _ _ D.i1_z.symm hz0
  have hez : e ≠ z := fun x => by subst x; rw [hze] at hoe; cases hoe; simp at hce
  exact wpAny_setField_rec hze (by simp) fun gf _ hsf => hE gf _ e (fun c o cz cTO ci1 ci2 x => hsf.extBut _ _ cz (hse _ _ ci1 (hs0.extBut _ _ cz x))) ⟨oe, hsf.extBut _ _ hez hoe, hce⟩
 ·simp only [Bool.false_eq_true, if_false]
  refine wpAny_bind ?_; simp only [← Array.forIn_toList, List.forIn_cons, List.forIn_nil]
  refine wpAny_bind (wpAny_bind (wpAny_holding ?_)); show wpAny _ _ (Builtin.SmallTypes.nextOf (.ref i1) >>= _) _ _ _
  have hcur := (Dr.ext h1 hs0.extBut D.i1_z D.l1_z)
  subst hend
  refine wpAny_bind ((D1 _ hh).done _ _ _ hcur fun ge e hse he => ?_)
  obtain ⟨oe, hoe, hce⟩ := he
  exact hE ge _ e (fun c o cz cTO ci1 ci2 x => hse _ _ ci1 (hs0.extBut _ _ cz x)) ⟨oe, hoe, hce⟩
end
abbrev y1_2 {P : Program} {w : World} {K : PySem.W.Frag} (S1 S2 : SeqK P w K) (h : Heap) (l1 l2 : Addr) : Heap := (h).push (S1.obj l1)
abbrev y2_2 {P : Program} {w : World} {K : PySem.W.Frag} (S1 S2 : SeqK P w K) (h : Heap) (l1 l2 : Addr) : Heap := (y1_2 S1 S2 h l1 l2).push (S2.obj l2)
abbrev yI_2 {P : Program} {w : World} {K : PySem.W.Frag} (S1 S2 : SeqK P w K) (h : Heap) (l1 l2 : Addr) : Heap := (y2_2 S1 S2 h l1 l2).push { cls := .type "tuple", data := .seq #[.ref h.objs.size, .ref (y1_2 S1 S2 h l1 l2).objs.size] }
abbrev yO_2 {P : Program} {w : World} {K : PySem.W.Frag} (S1 S2 : SeqK P w K) (h : Heap) (l1 l2 : Addr) : Heap := (yI_2 S1 S2 h l1 l2).push { cls := .type "tuple", data := .seq #[.none, .none] }
abbrev yZ_2 {P : Program} {w : World} {K : PySem.W.Frag} (S1 S2 : SeqK P w K) (h : Heap) (l1 l2 : Addr) : Heap := (yO_2 S1 S2 h l1 l2).push { cls := .type "zip", data := .fields #[.none, .bool false, .bool false, .ref (y2_2 S1 S2 h l1 l2).objs.size, .ref (yI_2 S1 S2 h l1 l2).objs.size] }
def ZipNew2 {P : Program} {w : World} {K : PySem.W.Frag} (S1 S2 : SeqK P w K) : Prop := S1.ok ∧ S2.ok ∧ ∀ (l1 l2 : Addr) (xs1 xs2 : Array Value),
  Meets (Builtin.«zip.__new__» ⟨[.type "zip", .ref l1, .ref l2], []⟩) (fun _ R s => S1.Is s.heap l1 xs1 ∧ S2.Is s.heap l2 xs2 ∧ R (.ok (.ret (.ref (yO_2 S1 S2 s.heap l1 l2).objs.size))) { s with heap := yZ_2 S1 S2 s.heap l1 l2 })
theorem ev_zip2 {X : Cx} {p pos : Pos} {e1 e2 : Expr} {ta : TA} (S1 S2 : SeqK X.prog X.w X.K) (zn : ZipNew2 S1 S2) (hg : Gl X "zip") (hm : X.mg "zip" = none) (ha : PA X [e1, e2] ta) (hs1 : starEach [e1, e2] X.env = [(false, eval e1 X.env), (false, eval e2 X.env)]) (hs2 : starEach [e2] X.env = [(false, eval e2 X.env)])
  {pins : List (Addr × Obj)} {s : Shared} {σ : St} {H : Hp} {R : Addr → Addr → Hp → Prop} (I : Inv X pins σ H s) (h : ta σ H fun vs H1 => ∃ l1 l2, vs = [.ref l1, .ref l2] ∧ (∃ xs, S1.Sq H1 l1 xs) ∧ (∃ xs, S2.Sq H1 l2 xs) ∧ R l1 l2 H1) :
  wpAny (model X.prog X.w) X.A (eval (.Call (.Name "zip" p) [e1, e2] [] pos) X.env) (fun v s1 => ∃ l1 l2 H1, ∃ m : Nat, v = .ref (m + 4) ∧ R l1 l2 H1 ∧ Inv X pins σ H1 s1 ∧ IsZip s1.heap (m + 4) (m + 2) (m + 3) .none ∧ IsT2 s1.heap (m + 2) (.ref m) (.ref (m + 1)) ∧ IsT2 s1.heap (m + 3) .none .none ∧ S1.It s1.heap m l1 0 ∧ S2.It s1.heap (m + 1) l2 0 ∧ l1 < m ∧ l2 < m ∧ (∀ b, m ≤ b → FpOk X pins H1 b) ∧ s1.heap.objs.size = m + 5) X.xe s := by
 refine Call_ (ld_blt I hg hm boot_zip (PyProof.Rows.callWith_type1 (thn (ha pos pins s σ H _ I h) fun us s1 ⟨vs, H1, I1, r1, q1⟩ => ?_) (by rw [hs1, hs2]) (by rw [hs2]; rfl)))
 obtain ⟨l1, l2, e, ⟨xs1, hq1⟩, ⟨xs2, hq2⟩, q⟩ := q1
 subst e
 rcases r1 with _ | ⟨ru1, r1⟩
 rcases r1 with _ | ⟨ru2, r1⟩
 cases r1
 cases ru1; cases ru2
 obtain ⟨its1, rv1, is1, _⟩ := S1.get rfl I1 hq1
 obtain ⟨its2, rv2, is2, _⟩ := S2.get rfl I1 hq2
 obtain ⟨o1, ho1⟩ := S1.iso is1
 have hl1 := Heap.lt_size ho1
 obtain ⟨o2, ho2⟩ := S2.iso is2
 have hl2 := Heap.lt_size ho2
 refine callType_new F.called_zip (by decide) (F.typeCall_zip_2 _ _) (F.newCall_zip_2 _ _) (fun obj => F.args_object_init_3 obj _ _) F.entry_zip_new (zn.2.2 l1 l2 its1.toArray its2.toArray) ⟨is1, is2, ?_⟩
 have z1 : (y1_2 S1 S2 s1.heap l1 l2).objs.size = s1.heap.objs.size + 1 := by rw [Heap.size_push]
 have z2 : (y2_2 S1 S2 s1.heap l1 l2).objs.size = s1.heap.objs.size + 2 := by rw [Heap.size_push, z1]
 have z3 : (yI_2 S1 S2 s1.heap l1 l2).objs.size = s1.heap.objs.size + 3 := by rw [Heap.size_push, z2]
 have z4 : (yO_2 S1 S2 s1.heap l1 l2).objs.size = s1.heap.objs.size + 4 := by rw [Heap.size_push, z3]
 have zz : (yZ_2 S1 S2 s1.heap l1 l2).objs.size = s1.heap.objs.size + 5 := by rw [Heap.size_push, z4]
 have gz : (yZ_2 S1 S2 s1.heap l1 l2).get? (yO_2 S1 S2 s1.heap l1 l2).objs.size = some _ := Heap.get?_push_size _ rfl
 have gO : (yZ_2 S1 S2 s1.heap l1 l2).get? (yI_2 S1 S2 s1.heap l1 l2).objs.size = some _ := Heap.get?_push_of_some _ (Heap.get?_push_size _ rfl)
 have gI : (yZ_2 S1 S2 s1.heap l1 l2).get? (y2_2 S1 S2 s1.heap l1 l2).objs.size = some _ := Heap.get?_push_of_some _ (Heap.get?_push_of_some _ (Heap.get?_push_size _ rfl))
 have g1 : S1.It (yZ_2 S1 S2 s1.heap l1 l2) s1.heap.objs.size l1 0 := S1.itk (S1.itn zn.1 _ _) fun o q => Heap.get?_push_of_some _ (Heap.get?_push_of_some _ (Heap.get?_push_of_some _ (Heap.get?_push_of_some _ (q))))
 have g2 : S2.It (yZ_2 S1 S2 s1.heap l1 l2) (y1_2 S1 S2 s1.heap l1 l2).objs.size l2 0 := S2.itk (S2.itn zn.2.1 _ _) fun o q => Heap.get?_push_of_some _ (Heap.get?_push_of_some _ (Heap.get?_push_of_some _ (q)))
 have kk : ∀ b o, s1.heap.get? b = some o → (yZ_2 S1 S2 s1.heap l1 l2).get? b = some o := fun b o x => Heap.get?_push_of_some _ (Heap.get?_push_of_some _ (Heap.get?_push_of_some _ (Heap.get?_push_of_some _ (Heap.get?_push_of_some _ (x)))))
 show _ ∧ _
 rw [z2, z3, z4] at gz; rw [z3] at gO; rw [z1, z2] at gI; rw [z4]
 rw [z1] at g2
 generalize yZ_2 S1 S2 s1.heap l1 l2 = hE at g1 g2 gI gO gz kk zz ⊢
 have I2 : Inv X pins σ H1 { s1 with heap := hE } := I1.kept (t' := s1.toks) kk
 exact ⟨⟨_, gz, rfl⟩, l1, l2, H1, s1.heap.objs.size, rfl, q, I2, gz, gI, gO, g1, g2, hl1, hl2, fun b hb => I1.fpOk hb (I1.hok.fresh hb), zz⟩
set_option maxHeartbeats 8000000 in
theorem zn_TL (P : Program) (w : World) (K : PySem.W.Frag) : ZipNew2 (seqT P w K) (seqL P w K) := ⟨trivial, trivial, fun l1 l2 xs1 xs2 =>
 .of_wp fun prog w A R s h => by
  obtain ⟨hp, g, d, tk, os⟩ := s; obtain ⟨hl1, hl2, h⟩ := h; have hsub := sub_zip
  have hL1 : Heap.IsTuple (Shared.heap ⟨hp, g, d, tk, os⟩) l1 xs1 := hl1
  have hL2 : Heap.IsList (Shared.heap ⟨(hp).push { cls := .type "tuple_iterator", data := .fields #[.ref l1, .int 0 0] }, g, d, tk, os⟩) l2 xs2 := Heap.IsList.push (hl2) _
  wp_walk using wpAny_pyIter_tuple hL1, wpAny_pyIter_list hL2
  exact ⟨_, rfl, h⟩⟩
theorem za_apart2 {n l1 l2 : Nat} (h1 : l1 < n) (h2 : l2 < n) : ZA2 (n + 4) (n + 2) (n + 3) n (n + 1) l1 l2 := by constructor <;> intro z <;> (have z' := z; revert z'; intro z'; try (change (_ : Nat) = _ at z'); omega)
def Itz {P : Program} {w : World} {K : PySem.W.Frag} (S1 S2 : SeqK P w K) (a b : Addr) : It :=
 ⟨fun i H => ∃ xs ys x y, S1.Sq H a xs ∧ S2.Sq H b ys ∧ xs[i]? = some x ∧ ys[i]? = some y, fun i H v H' => ∃ T, v = .ref T ∧ H T = none ∧ ∀ xs ys x y, S1.Sq H a xs → S2.Sq H b ys → xs[i]? = some x → ys[i]? = some y → H' = upd H T (.tup [x, y]),
  fun i H => ∃ xs ys, S1.Sq H a xs ∧ S2.Sq H b ys ∧ xs.length = i⟩
theorem turn_zip {P : Program} {w : World} {K : PySem.W.Frag} (S1 S2 : SeqK P w K) {es : List Expr} {k : Nat} {pos : Pos} (z TI TO i1 i2 l1 l2 : Addr) (D : ZA2 z TI TO i1 i2 l1 l2) :
  Turn P w K (.Tuple es k pos) (Itz S1 S2 l1 l2) [z, TI, TO, i1, i2] z (fun i h => IsZip h z TI TO .none ∧ IsT2 h TI (.ref i1) (.ref i2) ∧ (∃ a b, IsT2 h TO a b) ∧ S1.It h i1 l1 i ∧ S2.It h i2 l2 i) where
 mem := by simp
 obj := fun i h st b hb => by
  obtain ⟨hz, hTI, ⟨a, b', hTO⟩, h1, h2⟩ := st
  simp only [List.mem_cons, List.not_mem_nil, or_false] at hb
  rcases hb with e | e | e | e | e <;> rw [e]
  ·exact ⟨_, hz, fun v q => by have q' : Data.fields _ = Data.cell v := q; cases q'⟩
  ·exact ⟨_, hTI, fun v q => by have q' : Data.seq _ _ = Data.cell v := q; cases q'⟩
  ·exact ⟨_, hTO, fun v q => by have q' : Data.seq _ _ = Data.cell v := q; cases q'⟩
  ·exact S1.ito h1
  ·exact S2.ito h2
 keep := fun i h h' st kk => by
  obtain ⟨hz, hTI, ⟨a, b', hTO⟩, h1, h2⟩ := st
  exact ⟨kk z (by simp) _ hz, kk TI (by simp) _ hTI, ⟨a, b', kk TO (by simp) _ hTO⟩, S1.itk h1 fun o q => kk i1 (by simp) o q, S2.itk h2 fun o q => kk i2 (by simp) o q⟩
 item := by
  intro X hP hw hK hc i pins s σ H E I hf st hg
  subst hP hw
  obtain ⟨xs, ys, x, y, hq1, hq2, hx, hy⟩ := hg
  obtain ⟨its1, rv1, is1, hz1⟩ := S1.get hK I hq1
  obtain ⟨its2, rv2, is2, hz2⟩ := S2.get hK I hq2
  obtain ⟨u1, hu1, ru1⟩ := rv1.get hx
  obtain ⟨u2, hu2, ru2⟩ := rv2.get hy
  obtain ⟨hz, hTI, ⟨a, b', hTO⟩, h1, h2⟩ := st
  have hh := I.ok.hd hc
  have hT : s.TypeIs (.ref z) "zip" := ⟨_, hz, rfl⟩
  unfold pyNext
  refine wpAny_bind (wpAny_attempt (wpAny_callSpecial?_slot (name := Str.ofString "__next__") hT F.slot_zip_next (wpAny_call_entry F.slot_zip_next hT F.entry_zip_next
   (zipF_item2 S1 S2 (x1 := u1) (x2 := u2) hh D ⟨_, _, hz, .inl rfl, .inl rfl⟩ hTI hTO ⟨h1, is1⟩ ⟨h2, is2⟩ (by simpa using hu1) (by simpa using hu2) fun h' tk _ az a2 a3 a4 a5 a6 hk => wpAny_pure ⟨_, rfl, ?_⟩) (F.args_zip_next_1 _))))
  obtain ⟨b1, b2, a2⟩ := a2
  refine wpAny_letOwnedTupleGo_zip (az (.inr hz)) fun h'' z1 sb => ?_
  have kk : ∀ b o, b ∉ [z, TI, TO, i1, i2] → s.heap.get? b = some o → h''.get? b = some o := fun b o hb q => sb.extBut b o (fun e => hb (by simp [e])) (hk b o (fun e => hb (by simp [e])) (fun e => hb (by simp [e])) (fun e => hb (by simp [e])) (fun e => hb (by simp [e])) q)
  have zl : z < s.heap.objs.size := Heap.lt_size hz
  have ht : IsTup h'' s.heap.objs.size [u1, u2].toArray := ⟨_, sb.extBut _ _ (Nat.ne_of_gt zl) a5, rfl, _, rfl⟩
  exact ⟨.ref s.heap.objs.size, upd H s.heap.objs.size (.tup [x, y]), I.yielded (tk := tk) (fun b hb => hf b hb) kk (Nat.le_refl _) ht (.cons ru1 (.cons ru2 .nil)) (by show 2 ≤ sizeLine; decide), rfl,
   ⟨_, rfl, I.hok.fresh (Nat.le_refl _), fun xs' ys' x' y' e1 e2 e3 e4 => by
    rw [S1.inj hK I e1 hq1, hx] at e3; rw [S2.inj hK I e2 hq2, hy] at e4; cases e3; cases e4; rfl⟩,
   ⟨z1, sb.extBut _ _ D.TI_z (hk _ _ D.TI_z D.TO_TI.symm D.i1_TI.symm D.i2_TI.symm hTI), ⟨_, _, sb.extBut _ _ D.TO_z a2⟩, S1.itk a3.1 fun o q => sb.extBut _ o D.i1_z q, S2.itk a4.1 fun o q => sb.extBut _ o D.i2_z q⟩, fun b hb => by
    have hbt : b < s.heap.objs.size := by
     simp only [List.mem_cons, List.not_mem_nil, or_false] at hb
     rcases hb with e | e | e | e | e <;> rw [e]
     ·exact zl
     ·exact Heap.lt_size hTI
     ·exact Heap.lt_size hTO
     ·obtain ⟨o, q, _⟩ := S1.ito h1; exact Heap.lt_size q
     ·obtain ⟨o, q, _⟩ := S2.ito h2; exact Heap.lt_size q
    rw [upd_ne (Nat.ne_of_lt hbt)]; exact (hf b hb).1⟩
 done := by
  intro X hP hw hK hc i pins s σ H E I hf st hg
  subst hP hw
  obtain ⟨xs, ys, hq1, hq2, hend⟩ := hg
  obtain ⟨its1, rv1, is1, hz1⟩ := S1.get hK I hq1
  obtain ⟨its2, rv2, is2, hz2⟩ := S2.get hK I hq2
  obtain ⟨hz, hTI, ⟨a, b', hTO⟩, h1, h2⟩ := st
  have hh := I.ok.hd hc
  have hT : s.TypeIs (.ref z) "zip" := ⟨_, hz, rfl⟩
  have e1 := rv1.length
  have e2 := rv2.length
  unfold pyNext
  refine wpAny_bind (wpAny_attempt (wpAny_callSpecial?_slot (name := Str.ofString "__next__") hT F.slot_zip_next (wpAny_call_entry F.slot_zip_next hT F.entry_zip_next
   (zipF_end2_1 S1 S2 hh D ⟨_, _, hz, .inl rfl, .inl rfl⟩ hTI hTO ⟨h1, is1⟩ ⟨h2, is2⟩ (by simp; omega) fun h' tk e hk he => ?_) (F.args_zip_next_1 _))))
  obtain ⟨o, ho, hco⟩ := he
  refine wpAny_bind (wpAny_isInstance (T := "StopIteration") (b := true) ⟨o, ho, hco⟩ isSubtype_stop ?_)
  exact wpAny_pure ⟨rfl, I.ended (wr := [z, TI, TO, i1, i2]) (tk := tk) (fun b hb => hf b hb) fun b o hb q => hk b o (fun e => hb (by simp [e])) (fun e => hb (by simp [e])) (fun e => hb (by simp [e])) (fun e => hb (by simp [e])) q⟩
 self := fun _ _ _ _ _ st h => wpAny_pyIter_zip st.1 h
def iZip {P : Program} {w : World} {K : PySem.W.Frag} (S1 S2 : SeqK P w K) (ta : TA) : TI := fun σ H R => ta σ H fun vs H1 => ∃ a b, vs = [.ref a, .ref b] ∧ (∃ xs, S1.Sq H1 a xs) ∧ (∃ ys, S2.Sq H1 b ys) ∧ R (Itz S1 S2 a b) H1
theorem pi_zip2 {X : Cx} {es : List Expr} {k : Nat} {p pos pos' : Pos} {e1 e2 : Expr} {ta : TA} (S1 S2 : SeqK X.prog X.w X.K) (zn : ZipNew2 S1 S2) (hg : Gl X "zip") (hm : X.mg "zip" = none) (ha : PA X [e1, e2] ta)
  (hs : starEach [e1, e2] X.env = [(false, eval e1 X.env), (false, eval e2 X.env)]) (hs2 : starEach [e2] X.env = [(false, eval e2 X.env)]) : PI X (.Tuple es k pos') (.Call (.Name "zip" p) [e1, e2] [] pos) (iZip S1 S2 ta) := by
 intro pins s σ H R I h
 refine thn (ev_zip2 S1 S2 zn (R := fun l1 l2 H1 => R (Itz S1 S2 l1 l2) H1) hg hm ha hs hs2 I h) fun v s1 ⟨l1, l2, H1, m, e, q, I1, gz, gI, gO, g1, g2, h1, h2, fr, _⟩ => ?_
 subst e
 exact wpAny_pyIter_zip gz ⟨_, [m + 4, m + 2, m + 3, m, m + 1], _, _, H1, rfl, I1, turn_zip S1 S2 _ _ _ _ _ l1 l2 (za_apart2 h1 h2), ⟨gz, gI, ⟨_, _, gO⟩, g1, g2⟩, fun b hb => fr b (by
  simp only [List.mem_cons, List.not_mem_nil, or_false] at hb
  rcases hb with e | e | e | e | e <;> rw [e] <;> first | exact Nat.le_refl _ | exact Nat.le_add_right _ _), q⟩
theorem pi_zipTL {X : Cx} {es : List Expr} {k : Nat} {p pos pos' : Pos} {e1 e2 : Expr} {ta : TA} (hg : Gl X "zip") (hm : X.mg "zip" = none) (ha : PA X [e1, e2] ta)
  (hs : starEach [e1, e2] X.env = [(false, eval e1 X.env), (false, eval e2 X.env)] := by rfl) (hs2 : starEach [e2] X.env = [(false, eval e2 X.env)] := by rfl) : PI X (.Tuple es k pos') (.Call (.Name "zip" p) [e1, e2] [] pos) (iZip (seqT X.prog X.w X.K) (seqL X.prog X.w X.K) ta) := pi_zip2 _ _ (zn_TL _ _ _) hg hm ha hs hs2
end L2

end

section
namespace L2
open PySem PySem.Spec PyProof.Rows
section
variable {X : Cx} {e a b c : Expr} {es rest : List Expr} {ta tb tc te : TE} {pos p : Pos} {tA tB' : TT} {t u : TS}
theorem PE.weak {t t' : TE} (h : PE X e t) (w : ∀ σ H Q, t' σ H Q → t σ H Q) : PE X e t' := fun pins s σ H Q I q => h pins s σ H Q I (w σ H Q q)
def cVar (i : Nat) : TE := fun σ H Q => match σ[i]? with | some (some v) => Q v H | _ => False
theorem cv (i : Nat) {x : Str} {pos : Pos} (hN : X.N[i]? = some x := by rfl) (hv : Vis X.env.scope x := by first | exact Or.inl rfl | exact Or.inr (Or.inl rfl) | exact Or.inr (Or.inr rfl)) (hd : (x == ("__debug__" : Str)) = false := by decide)
  (hcd : (x == ("__classdict__" : Str)) = false := by decide) : PE X (.Name x pos) (cVar i) := (pe_var hN hv hd hcd).weak fun σ H Q q => by
 unfold cVar at q
 split at q
 ·exact ⟨_, by assumption, q⟩
 ·exact q.elim
def cI (C : Int → Int → Prop) (g : Int → Int → V) (ta tb : TE) : TE := fun σ H Q => ta σ H fun x H1 => tb σ H1 fun y H2 => match x, y with | .int i, .int j => C i j ∧ Q (g i j) H2 | _, _ => False
end
section
variable {X : Cx} {e a b c : Expr} {es rest : List Expr} {ta tb tc te : TE} {pos p : Pos}
theorem rI_of {C : Int → Int → Prop} {g : Int → Int → V} {x y : V} {H : Hp} {Q : VK} (h : match x, y with | .int i, .int j => C i j ∧ Q (g i j) H | _, _ => False) : rI C g x y H Q := by
 split at h
 ·exact ⟨_, _, rfl, rfl, h⟩
 ·exact h.elim
theorem rI0_of {g : Int → Int → V} {x y : V} {H : Hp} {Q : VK} (h : match x, y with | .int i, .int j => Q (g i j) H | _, _ => False) : rI0 g x y H Q := by
 split at h
 ·exact ⟨_, _, rfl, rfl, h⟩
 ·exact h.elim
def mI (C : Int → Int → Prop) (g : Int → Int → V) : R2 := fun x y H Q => match x, y with | .int i, .int j => C i j ∧ Q (g i j) H | _, _ => False
def mI0 (g : Int → Int → V) : R2 := fun x y H Q => match x, y with | .int i, .int j => Q (g i j) H | _, _ => False
theorem OpR.mI {f : Value → Value → Sem Value} {C : Int → Int → Prop} {g : Int → Int → V} (h : OpR X f (rI C g)) : OpR X f (L2.mI C g) := fun pins s σ H x y v u Q I rx ry q => h pins s σ H x y v u Q I rx ry (rI_of q)
theorem OpR.mI0 {f : Value → Value → Sem Value} {g : Int → Int → V} (h : OpR X f (rI0 g)) : OpR X f (L2.mI0 g) := fun pins s σ H x y v u Q I rx ry q => h pins s σ H x y v u Q I rx ry (rI0_of q)
theorem o_add : OpR X (binaryOp .Add) (mI0 fun i j => .int (i + j)) := op_add.mI0
theorem o_sub : OpR X (binaryOp .Sub) (mI0 fun i j => .int (i - j)) := op_sub.mI0
theorem o_mul : OpR X (binaryOp .Mult) (mI CMul fun i j => .int (i * j)) := op_mul.mI
theorem o_fdiv : OpR X (binaryOp .FloorDiv) (mI CDiv fun i j => .int (i / j)) := op_fdiv.mI
theorem o_mod : OpR X (binaryOp .Mod) (mI (fun _ j => 0 < j) fun i j => .int (i % j)) := op_mod.mI
theorem o_pow : OpR X (binaryOp .Pow) (mI CPow fun i j => .int (i ^ j.toNat)) := op_pow.mI
theorem o_lt : OpR X (compareOp .Lt) (mI0 fun i j => .bl (decide (i < j))) := op_lt.mI0
theorem o_le : OpR X (compareOp .LtE) (mI0 fun i j => .bl (decide (i ≤ j))) := op_le.mI0
theorem o_gt : OpR X (compareOp .Gt) (mI0 fun i j => .bl (decide (j < i))) := op_gt.mI0
theorem o_ge : OpR X (compareOp .GtE) (mI0 fun i j => .bl (decide (j ≤ i))) := op_ge.mI0
def mB (x : V) (Q : Bool → Prop) : Prop := match x with | .bl c => Q c | _ => False
end
structure Mono (t : TE) : Prop where
 m : ∀ {σ H} {Q Q' : VK}, t σ H Q → (∀ v H', Q v H' → Q' v H') → t σ H Q'
section
variable {X : Cx} {e a b c : Expr} {es rest : List Expr} {te : TE} {pos p : Pos}
def cB (t : TE) : TT := fun σ H Q => t σ H fun x H1 => match x with | .bl c => Q c H1 | _ => False
theorem c_val {t : TE} (h : PE X e t) (he : ∀ whole, isTrue e X.env whole = (do let v ← whole; standAt e.pos; holding [v] (truthy v)) := by intro _; rfl) : PT X e (cB t) := by
 intro pins s σ H Q I hw
 refine isTrue_plain (thn (h pins s σ H _ I hw) fun v s1 ⟨x, H1, I1, r1, q1⟩ => ?_) (he _)
 dsimp only at q1
 split at q1
 ·cases r1; exact wpAny_truthy_bool ⟨H1, I1, q1⟩
 ·exact q1.elim
theorem c_cmpT {op : CmpOp} {r : R2} {ta tb : TE} (ho : OpR X (compareOp op) r) (ha : PE X a ta) (hb : PE X b tb) (hm : behindInMarks op b = false) : PT X (.Compare a [op] [b] pos) (cB (tOp r ta tb)) := by
 intro pins s σ H Q I h
 refine wpAny_isTrue_Compare1 (thn (ha pins s σ H _ I h) fun v s1 ⟨x, H1, I1, r1, q1⟩ => thn (hb pins s1 σ H1 _ I1 q1) fun u s2 ⟨y, H2, I2, r2, q2⟩ =>
  thn (ho pins s2 σ H2 x y v u _ I2 r1 r2 q2) fun c s3 ⟨z, H3, I3, r3, q3⟩ => ?_) hm
 dsimp only at q3
 split at q3
 ·cases r3; exact wpAny_truthy_bool ⟨H3, I3, q3⟩
 ·exact q3.elim
def cChain (r r' : R2) (ta tb tc : TE) : TE := fun σ H Q => ta σ H fun x H1 => tb σ H1 fun y H2 => r x y H2 fun z H3 => match z with | .bl k => br k (tc σ H3 fun w' H4 => r' y w' H4 Q) (Q (.bl false) H3) | _ => False
theorem c_chain {op op' : CmpOp} {r r' : R2} {ta tb tc : TE} (ho : OpR X (compareOp op) r) (ho' : OpR X (compareOp op') r') (ha : PE X a ta) (hb : PE X b tb) (hc : PE X c tc)
  (hm : lastMarks [op, op'] [b, c] = false := by with_unfolding_all rfl) : PE X (.Compare a [op, op'] [b, c] pos) (cChain r r' ta tb tc) := by
 intro pins s σ H Q I h
 refine Compare_chain (thn (ha pins s σ H _ I h) fun v s1 ⟨x, H1, I1, r1, q1⟩ => chain_link (thn (hb pins s1 σ H1 _ I1 q1) fun u s2 ⟨y, H2, I2, r2, q2⟩ =>
  thn (ho pins s2 σ H2 x y v u _ I2 r1 r2 q2) fun d s3 ⟨z, H3, I3, r3, q3⟩ => ?_)) hm
 dsimp only at q3
 split at q3
 ·rename_i k
  cases r3
  refine wpAny_truthy_bool ?_
  cases k with
  | false => exact ite_ff ⟨.bl false, H3, I3, rfl, q3.2 rfl⟩
  | true => exact ite_tt (chain_last (thn (hc pins s3 σ H3 _ I3 (q3.1 rfl)) fun w' s4 ⟨z', H4, I4, r4, q4⟩ => ho' pins s4 σ H4 y z' u w' Q I4 r2 r4 q4))
 ·exact q3.elim
def cAnd (t u : TT) : TT := fun σ H Q => t σ H fun c H1 => br c (u σ H1 Q) (Q false H1)
def cOr (t u : TT) : TT := fun σ H Q => t σ H fun c H1 => br c (Q true H1) (u σ H1 Q)
theorem c_and {tA tB' : TT} (ha : PT X a tA) (hb : PW X (.BoolOp .And (b :: rest) pos) tB') : PW X (.BoolOp .And (a :: b :: rest) pos) (cAnd tA tB') := by
 intro wh pins s σ H Q I h
 refine isTrue_and (thn (ha pins s σ H _ I h) fun c s1 ⟨H1, I1, q1⟩ => ?_)
 cases c with
 | true => exact hb wh pins s1 σ H1 Q I1 (q1.1 rfl)
 | false => exact ⟨H1, I1, q1.2 rfl⟩
theorem c_or {tA tB' : TT} (ha : PT X a tA) (hb : PW X (.BoolOp .Or (b :: rest) pos) tB') : PW X (.BoolOp .Or (a :: b :: rest) pos) (cOr tA tB') := by
 intro wh pins s σ H Q I h
 refine isTrue_or (thn (ha pins s σ H _ I h) fun c s1 ⟨H1, I1, q1⟩ => ?_)
 cases c with
 | true => exact ⟨H1, I1, q1.1 rfl⟩
 | false => exact hb wh pins s1 σ H1 Q I1 (q1.2 rfl)
def cAndV (ta tb : TE) : TE := fun σ H Q => ta σ H fun x H1 => match x with | .bl c => br c (tb σ H1 Q) (Q (.bl false) H1) | _ => False
def cNotV (ta : TE) : TE := fun σ H Q => ta σ H fun x H1 => match x with | .bl c => Q (.bl (!c)) H1 | _ => False
theorem c_andV {ta tb : TE} (ha : PE X a ta) (hb : PE X (.BoolOp .And (b :: rest) pos) tb) : PE X (.BoolOp .And (a :: b :: rest) pos) (cAndV ta tb) := by
 intro pins s σ H Q I h
 refine BoolOp_and (thn (ha pins s σ H _ I h) fun v s1 ⟨x, H1, I1, r1, q1⟩ => ?_)
 dsimp only at q1
 split at q1
 ·rename_i c
  cases r1
  refine wpAny_truthy_bool ?_
  cases c with
  | true => exact hb pins s1 σ H1 Q I1 (q1.1 rfl)
  | false => exact ⟨.bl false, H1, I1, rfl, q1.2 rfl⟩
 ·exact q1.elim
theorem c_notV {ta : TE} (ha : PE X a ta) : PE X (.UnaryOp .Not a pos) (cNotV ta) := by
 intro pins s σ H Q I h
 refine UnaryOp_ (thn (ha pins s σ H _ I h) fun v s1 ⟨x, H1, I1, r1, q1⟩ => ?_)
 dsimp only at q1
 split at q1
 ·rename_i c
  cases r1
  exact not_of (wpAny_truthy_bool ⟨.bl (!c), H1, I1, rfl, q1⟩)
 ·exact q1.elim
def cIfS (c : TT) (t u : TS) : TS := fun D σ H => c σ H fun b H1 => br b (t D σ H1) (u D σ H1)
theorem c_if {sa sb : List Stmt} {tc : TT} {t u : TS} (hc : PT X c tc) (ha : PSs X sa t) (hb : PSs X sb u) : PS X (.If c sa sb pos) (cIfS tc t u) := by
 intro pins s σ H D I h
 refine wpAny_If (thn (hc pins s σ H _ I h) fun d s1 ⟨H1, I1, q1⟩ => ?_)
 cases d with
 | true => exact ha pins s1 σ H1 D I1 (q1.1 rfl)
 | false => exact hb pins s1 σ H1 D I1 (q1.2 rfl)
end
section
variable {X : Cx} {es : List Expr} {t : TA} {pos : Pos}
theorem few {n : Nat} (h : Nat.ble n 64 = true) : n ≤ sizeLine := Nat.le_trans (Nat.le_of_ble_eq_true h) (by decide)
def cTup (t : TA) : TE := fun σ H Q => t σ H fun xs H1 => match Nat.ble xs.length 64 with | true => ∀ p, H1 p = none → Q (.ref p) (upd H1 p (.tup xs)) | false => False
def cLst (t : TA) : TE := fun σ H Q => t σ H fun xs H1 => match Nat.ble xs.length 64 with | true => ∀ p, H1 p = none → Q (.ref p) (upd H1 p (.lst xs)) | false => False
theorem c_tup {x1} (h : PA X es t) : PE X (.Tuple es x1 pos) (cTup t) := by
 intro pins s σ H Q I hq
 refine wpAny_Tuple_spliced (thn (h pos pins s σ H _ I hq) fun us s1 ⟨xs, H1, I1, r, q⟩ => ?_)
 dsimp only at q
 split at q
 ·rename_i z
  refine ⟨by rw [← r.length]; exact few z, ?_⟩
  have hf : H1 s1.heap.objs.size = none := I1.hok.fresh (Nat.le_refl _)
  refine ⟨.ref s1.heap.objs.size, upd H1 s1.heap.objs.size (.tup xs), I1.laid (t' := s1.toks) (fun b u e => Heap.get?_push_of_some _ e) (Nat.le_refl _) ?_, rfl, q _ hf⟩
  exact ⟨few z, us, r, ⟨_, Heap.get?_push_size _ rfl, rfl, _, rfl⟩⟩
 ·exact q.elim
theorem c_lst (h : PA X es t) : PE X (.List es pos) (cLst t) := by
 intro pins s σ H Q I hq
 refine wpAny_List_spliced (thn (h pos pins s σ H _ I hq) fun us s1 ⟨xs, H1, I1, r, q⟩ => ?_)
 dsimp only at q
 split at q
 ·rename_i z
  refine ⟨by rw [← r.length]; exact few z, ?_⟩
  have hf : H1 s1.heap.objs.size = none := I1.hok.fresh (Nat.le_refl _)
  refine ⟨.ref s1.heap.objs.size, upd H1 s1.heap.objs.size (.lst xs), I1.laid (t' := s1.toks) (fun b u e => Heap.get?_push_of_some _ e) (Nat.le_refl _) ?_, rfl, q _ hf⟩
  exact ⟨few z, us, 0, r, Heap.get?_push_size _ rfl⟩
 ·exact q.elim
end
section
variable {P : Program} {w : World} {K : PySem.W.Frag} {mg : Str → Option Value} {base : Heap}
structure Fn (P : Program) (w : World) (K : PySem.W.Frag) (mg : Str → Option Value) (base : Heap) (n : Nat) (x : Str) (ps : List Str) (sp : Sp) : Prop where
 ex : ∃ (f : Addr) (fd : FuncData), FnOk P w K mg base CX0 n f fd ps sp ∧ mg x = some (.ref f) ∧ PySem.W.keepIn K (.ref f) = true ∧ Binds K fd ps []
structure Df (K : PySem.W.Frag) (mg : Str → Option Value) (x : Str) (st : Stmt) (ps : List Str) : Prop where
 ex : ∃ (f : Addr) (fd : FuncData), Fun K x x st f fd ∧ mg x = some (.ref f) ∧ Binds K fd ps []
theorem Df.fn {x : Str} {st : Stmt} {N ps : List Str} {k : Nat} {sp : Sp} (F : Df K mg x st ps) (S : FnScope N ps (defScope st)) (len : ∀ vs H Q E, sp vs H Q E → vs.length = ps.length)
  (hbody : ∀ (f : Addr) (cdv : Value) (A : Around) (outer : List Env) (s : Shared) (H : Hp) (vs : List V) (Q : VK) (E : XK), Room k (A.deeper (envOfC x (defScope st) s.heap.objs.size f cdv)) → sp vs H Q E →
   ∃ t, PSs (cxOf CX0 P w K mg base N x (defScope st) f cdv A outer s H E).nox (defBody st) t ∧ t { nx := fun _ H' => Q .non H', rt := Q } (start N vs) H) : Fn P w K mg base (k + 1) x ps sp := by
 obtain ⟨f, fd, hF, hm, hb⟩ := F.ex
 exact ⟨f, fd, hF.ok S len fun cdv A outer s H vs Q E hr h => hbody f cdv A outer s H vs Q E hr h, hm, hF.kp, hb⟩
def cCall (sp : Sp) (t : TA) : TE := fun σ H Q => t σ H fun vs H1 => sp vs H1 Q E0
theorem c_call {X : Cx} {n : Nat} {x : Str} {ps : List Str} {sp : Sp} {e : Expr} {es : List Expr} {t : TA} {p pos : Pos} (F : Fn X.prog X.w X.K X.mg X.base n x ps sp) (hr : Room n X.A) (hg : Gl X x) (ha : PA X (e :: es) t)
  (hdb : (x == ("__debug__" : Str)) = false := by decide) (he : starEach (e :: es) X.env = (false, eval e X.env) :: starEach es X.env := by rfl) (hpl : (backTo pos (starEach es X.env)).any (·.1) = false := by rfl) :
  PE X (.Call (.Name x p) (e :: es) [] pos) (cCall sp t) := by
 obtain ⟨f, fd, F, hm, hk, hb⟩ := F.ex
 refine (pe_call (dvs := []) (E := E0) F hr hg hm hk hb .nil pass0 ha hdb he hpl).weak fun σ H Q q => ?_
 have e : ∀ vs : List V, vs ++ [] = vs := fun vs => List.append_nil vs
 show t σ H fun vs H1 => sp (vs ++ []) H1 Q E0
 simp only [e]
 exact q
end
end L2

end

section
namespace L2
open PySem PySem.Spec PyProof.Rows
def DK (kvs : List (PyData × PyData)) (ks : List (Key × V)) : Prop := (kvs = [] ∧ ks = []) ∨ (kvs = [(.int 0, .int 1)] ∧ ks = [(.inl 0, .int 1)])
mutual
def Rep (p : Addr) (H : Hp) : PyData → V → Prop
 | .none, v => v = .non
 | .bool b, v => v = .bl b
 | .int i, v => v = .int i
 | .str x, v => v = .str x
 | .tuple ds, v => ∃ a xs, v = .ref a ∧ H a = some (.tup xs) ∧ Reps p H ds xs
 | .list ds, v => ∃ a xs, v = .ref a ∧ a ≠ p ∧ H a = some (.lst xs) ∧ Reps p H ds xs
 | .dict kvs, v => ∃ a ks, v = .ref a ∧ a ≠ p ∧ DK kvs ks ∧ H a = some (.dK ks)
def Reps (p : Addr) (H : Hp) : List PyData → List V → Prop
 | [], xs => xs = []
 | d :: ds, xs => ∃ x r, xs = x :: r ∧ Rep p H d x ∧ Reps p H ds r
end
def Ev (p : Addr) (H H' : Hp) : Prop := ∀ b o, H b = some o → (b = p ∧ ∃ xs, o = .lst xs) ∨ H' b = some o
theorem Ev.refl {p : Addr} {H : Hp} : Ev p H H := fun _ _ h => .inr h
theorem Ev.same {p : Addr} {H H' : Hp} (h : Same H H') : Ev p H H' := fun b o q => .inr (h b o q)
theorem Ev.trans {p : Addr} {H H1 H2 : Hp} (h : Ev p H H1) (h' : Ev p H1 H2) : Ev p H H2 := fun b o q => (h b o q).elim .inl fun r => h' b o r
theorem Ev.tup {p a : Addr} {H H' : Hp} {xs : List V} (h : Ev p H H') (q : H a = some (.tup xs)) : H' a = some (.tup xs) := (h a _ q).elim (fun ⟨_, ys, e⟩ => nomatch e) id
theorem Ev.lst {p a : Addr} {H H' : Hp} {xs : List V} (h : Ev p H H') (q : H a = some (.lst xs)) (n : a ≠ p) : H' a = some (.lst xs) := (h a _ q).elim (fun ⟨e, _⟩ => absurd e n) id
theorem Ev.dk {p a : Addr} {H H' : Hp} {ks : List (Key × V)} (h : Ev p H H') (q : H a = some (.dK ks)) : H' a = some (.dK ks) := (h a _ q).elim (fun ⟨_, ys, e⟩ => nomatch e) id
theorem Ev.new {p a : Addr} {H : Hp} {o : HO} (h : H a = none) : Ev p H (upd H a o) := fun b u q => .inr (by rw [upd_ne (ne_of_none q h)]; exact q)
theorem Ev.pen {p : Addr} {H : Hp} {o : HO} {xs : List V} (h : H p = some (.lst xs)) : Ev p H (upd H p o) := fun b u q => by
 by_cases e : b = p
 ·subst e; rw [h] at q; cases q; exact .inl ⟨rfl, xs, rfl⟩
 ·exact .inr (by rw [upd_ne e]; exact q)
theorem Same.new {a : Addr} {H : Hp} {o : HO} (h : H a = none) : Same H (upd H a o) := fun b u q => by rw [upd_ne (ne_of_none q h)]; exact q
mutual
theorem Rep.ev {p : Addr} {H H' : Hp} (h : Ev p H H') : ∀ (d : PyData) (v : V), Rep p H d v → Rep p H' d v
 | .none, v, q => q
 | .bool _, v, q => q
 | .int _, v, q => q
 | .str _, v, q => q
 | .tuple ds, v, q => by
  unfold Rep at q ⊢
  obtain ⟨a, xs, e, r, z⟩ := q
  exact ⟨a, xs, e, h.tup r, Reps.ev h ds xs z⟩
 | .list ds, v, q => by
  unfold Rep at q ⊢
  obtain ⟨a, xs, e, n, r, z⟩ := q
  exact ⟨a, xs, e, n, h.lst r n, Reps.ev h ds xs z⟩
 | .dict kvs, v, q => by
  unfold Rep at q ⊢
  obtain ⟨a, ks, e, n, k, r⟩ := q
  exact ⟨a, ks, e, n, k, h.dk r⟩
theorem Reps.ev {p : Addr} {H H' : Hp} (h : Ev p H H') : ∀ (ds : List PyData) (xs : List V), Reps p H ds xs → Reps p H' ds xs
 | [], xs, q => by unfold Reps at q ⊢; exact q
 | d :: ds, xs, q => by
  unfold Reps at q ⊢
  obtain ⟨x, r, e, z, zs⟩ := q
  exact ⟨x, r, e, Rep.ev h d x z, Reps.ev h ds r zs⟩
end
theorem Reps.len {p : Addr} {H : Hp} : ∀ {ds : List PyData} {xs : List V}, Reps p H ds xs → ds.length = xs.length
 | [], xs, q => by unfold Reps at q; subst q; rfl
 | d :: ds, xs, q => by
  unfold Reps at q
  obtain ⟨x, r, e, z, zs⟩ := q
  subst e
  simp [Reps.len zs]
theorem Reps.got {p : Addr} {H : Hp} : ∀ {ds : List PyData} {xs : List V} {i : Nat} {x : V}, Reps p H ds xs → xs[i]? = some x → ∃ d, ds[i]? = some d ∧ Rep p H d x
 | [], xs, i, x, q, e => by unfold Reps at q; subst q; simp at e
 | d :: ds, xs, 0, x', q, e => by
  unfold Reps at q
  obtain ⟨x, r, rfl, z, zs⟩ := q
  simp at e; subst e
  exact ⟨d, rfl, z⟩
 | d :: ds, xs, i + 1, x', q, e => by
  unfold Reps at q
  obtain ⟨x, r, rfl, z, zs⟩ := q
  obtain ⟨y, hy, ry⟩ := Reps.got (i := i) zs (by simpa using e)
  exact ⟨y, by simpa using hy, ry⟩
theorem Reps.nil {p : Addr} {H : Hp} : Reps p H [] [] := by unfold Reps; rfl
theorem Reps.cons {p : Addr} {H : Hp} {d : PyData} {ds : List PyData} {x : V} {xs : List V} (h : Rep p H d x) (r : Reps p H ds xs) : Reps p H (d :: ds) (x :: xs) := by unfold Reps; exact ⟨x, xs, rfl, h, r⟩
theorem Reps.append {p : Addr} {H : Hp} : ∀ {ds es : List PyData} {xs ys : List V}, Reps p H ds xs → Reps p H es ys → Reps p H (ds ++ es) (xs ++ ys)
 | [], _, xs, _, q, r => by unfold Reps at q; subst q; exact r
 | d :: ds, _, xs, _, q, r => by
  unfold Reps at q
  obtain ⟨x, t, rfl, z, zs⟩ := q
  exact .cons z (Reps.append zs r)
theorem Rep.tup {p a : Addr} {H : Hp} {ds : List PyData} {xs : List V} (h : H a = some (.tup xs)) (r : Reps p H ds xs) : Rep p H (.tuple ds) (.ref a) := by unfold Rep; exact ⟨a, xs, rfl, h, r⟩
theorem Rep.lst {p a : Addr} {H : Hp} {ds : List PyData} {xs : List V} (n : a ≠ p) (h : H a = some (.lst xs)) (r : Reps p H ds xs) : Rep p H (.list ds) (.ref a) := by unfold Rep; exact ⟨a, xs, rfl, n, h, r⟩
theorem Rep.int {p : Addr} {H : Hp} {i : Int} : Rep p H (.int i) (.int i) := by unfold Rep; rfl
theorem Rep.bl {p : Addr} {H : Hp} {i : Bool} : Rep p H (.bool i) (.bl i) := by unfold Rep; rfl
theorem Rep.str {p : Addr} {H : Hp} {i : Str} : Rep p H (.str i) (.str i) := by unfold Rep; rfl
theorem Rep.non {p : Addr} {H : Hp} : Rep p H .none .non := by unfold Rep; rfl
def TyIs (x : V) (H : Hp) (n : String) : Prop := match x with
 | .non => n = "NoneType" | .bl _ => n = "bool" | .int _ => n = "int" | .str _ => n = "str"
 | .ref a => (n = "tuple" ∧ ∃ xs, H a = some (.tup xs)) ∨ (n = "list" ∧ ∃ xs, H a = some (.lst xs)) ∨ (n = "dict" ∧ ∃ kvs, H a = some (.dK kvs))
 | _ => False
def tyD : PyData → String
 | .none => "NoneType" | .bool _ => "bool" | .int _ => "int" | .str _ => "str" | .tuple _ => "tuple" | .list _ => "list" | .dict _ => "dict"
def isSub (n T : String) : Bool := n == T || (n == "bool" && T == "int")
theorem Rep.ty {p : Addr} {H : Hp} {v : V} : ∀ {d : PyData}, Rep p H d v → TyIs v H (tyD d)
 | .none, q => by unfold Rep at q; subst q; rfl
 | .bool _, q => by unfold Rep at q; subst q; rfl
 | .int _, q => by unfold Rep at q; subst q; rfl
 | .str _, q => by unfold Rep at q; subst q; rfl
 | .tuple ds, q => by unfold Rep at q; obtain ⟨a, xs, rfl, h, _⟩ := q; exact .inl ⟨rfl, xs, h⟩
 | .list ds, q => by unfold Rep at q; obtain ⟨a, xs, rfl, _, h, _⟩ := q; exact .inr (.inl ⟨rfl, xs, h⟩)
 | .dict kvs, q => by unfold Rep at q; obtain ⟨a, ks, rfl, _, _, h⟩ := q; exact .inr (.inr ⟨rfl, ks, h⟩)
def rIsi : List V → Hp → VK → Prop := fun xs H Q => match xs with
 | [x, .ty T] => ∃ n, TyIs x H n ∧ (T = "int" ∨ T = "bool" ∨ T = "tuple" ∨ T = "list" ∨ T = "str") ∧ Q (.bl (isSub n T)) H
 | _ => False
section
variable {X : Cx}
theorem boot_int : bootBuiltins "int" = some (.type "int") := by decide +kernel
theorem boot_bool : bootBuiltins "bool" = some (.type "bool") := by decide +kernel
theorem boot_tuple' : bootBuiltins "tuple" = some (.type "tuple") := by decide +kernel
theorem boot_list' : bootBuiltins "list" = some (.type "list") := by decide +kernel
theorem call_isi : CallR X (.builtin "isinstance") rIsi := by
 intro pins s σ H xs us Q I r h
 unfold rIsi at h
 split at h
 ·rename_i x T
  obtain ⟨n, ht, hT, q⟩ := h
  obtain ⟨u, v, rfl, ru, rv⟩ := r.two
  cases rv
  have yes : ∀ s' : Shared, Inv X pins σ H s' → isSub n T = true → EP X pins σ Q (.bool true) s' := fun s' I' e => ⟨.bl true, H, I', rfl, by rw [e] at q; exact q⟩
  have no : isSub n T = false → EP X pins σ Q (.bool false) { s with toks := s.toks + 1 } := fun e => ⟨.bl false, H, I.tok _, rfl, by rw [e] at q; exact q⟩
  cases x with
  | non =>
   have e : n = "NoneType" := ht
   subst e; cases ru
   rcases hT with rfl | rfl | rfl | rfl | rfl
   ·exact IsiPair.NoneType_int (no rfl)
   ·exact IsiPair.NoneType_bool (no rfl)
   ·exact IsiPair.NoneType_tuple (no rfl)
   ·exact IsiPair.NoneType_list (no rfl)
   ·exact IsiPair.NoneType_str (no rfl)
  | bl k =>
   have e : n = "bool" := ht
   subst e; cases ru
   rcases hT with rfl | rfl | rfl | rfl | rfl
   ·exact IsiPair.bool_int (yes _ I rfl)
   ·exact IsiPair.bool_bool (yes _ I rfl)
   ·exact IsiPair.bool_tuple (no rfl)
   ·exact IsiPair.bool_list (no rfl)
   ·exact IsiPair.bool_str (no rfl)
  | int k =>
   have e : n = "int" := ht
   subst e; obtain ⟨t, rfl⟩ := ru
   rcases hT with rfl | rfl | rfl | rfl | rfl
   ·exact IsiPair.int_int (yes _ I rfl)
   ·exact IsiPair.int_bool (no rfl)
   ·exact IsiPair.int_tuple (no rfl)
   ·exact IsiPair.int_list (no rfl)
   ·exact IsiPair.int_str (no rfl)
  | str k =>
   have e : n = "str" := ht
   subst e; obtain ⟨t, rfl⟩ := ru
   rcases hT with rfl | rfl | rfl | rfl | rfl
   ·exact IsiPair.str_int (no rfl)
   ·exact IsiPair.str_bool (no rfl)
   ·exact IsiPair.str_tuple (no rfl)
   ·exact IsiPair.str_list (no rfl)
   ·exact IsiPair.str_str (yes _ I rfl)
  | ref a =>
   cases ru
   have ht' : (n = "tuple" ∧ ∃ xs, H a = some (.tup xs)) ∨ (n = "list" ∧ ∃ xs, H a = some (.lst xs)) ∨ (n = "dict" ∧ ∃ kvs, H a = some (.dK kvs)) := ht
   rcases ht' with ⟨e, xs, hx⟩ | ⟨e, xs, hx⟩ | ⟨e, xs, hx⟩
   ·subst e
    obtain ⟨_, its, _, o, ho, hc, _⟩ := I.hok a _ hx
    rcases hT with rfl | rfl | rfl | rfl | rfl
    ·exact IsiPair.tuple_int ho hc (no rfl)
    ·exact IsiPair.tuple_bool ho hc (no rfl)
    ·exact IsiPair.tuple_tuple ho hc (yes _ I rfl)
    ·exact IsiPair.tuple_list ho hc (no rfl)
    ·exact IsiPair.tuple_str ho hc (no rfl)
   ·subst e
    obtain ⟨_, its, k, _, ho⟩ := I.hok a _ hx
    rcases hT with rfl | rfl | rfl | rfl | rfl
    ·exact IsiPair.list_int ho rfl (no rfl)
    ·exact IsiPair.list_bool ho rfl (no rfl)
    ·exact IsiPair.list_tuple ho rfl (no rfl)
    ·exact IsiPair.list_list ho rfl (yes _ I rfl)
    ·exact IsiPair.list_str ho rfl (no rfl)
   ·subst e
    obtain ⟨_, _, vs, _, o, es, ep, ho, hc, _⟩ := I.hok a _ hx
    have hc' : o.cls = .type "dict" := hc.1
    rcases hT with rfl | rfl | rfl | rfl | rfl
    ·exact IsiPair.dict_int ho hc' (no rfl)
    ·exact IsiPair.dict_bool ho hc' (no rfl)
    ·exact IsiPair.dict_tuple ho hc' (no rfl)
    ·exact IsiPair.dict_list ho hc' (no rfl)
    ·exact IsiPair.dict_str ho hc' (no rfl)
  | byt _ => exact (show False from ht).elim
  | flt _ => exact (show False from ht).elim
  | ty _ => exact (show False from ht).elim
 ·exact h.elim
theorem call_all (hc : X.calm = true) : CallR X (.builtin "all") (fun xs H Q => ∃ (p : Addr) (bs : List Bool), xs = [.ref p] ∧ H p = some (.lst (bs.map V.bl)) ∧ Q (.bl (bs.all id)) H) := by
 intro pins s σ H xs us Q I r h
 obtain ⟨p, bs, rfl, hp, q⟩ := h
 obtain ⟨u, rfl, ru⟩ := r.one
 cases ru
 obtain ⟨its, rv, pl, hz⟩ := I.list (SqL.of hp)
 refine call_all_walk (wpAny_pyIter_list pl.isList ?_)
 obtain ⟨ol, _, hol, _⟩ := id pl
 have hlt := Heap.lt_size hol
 refine ⟨s.heap.objs.size, _, _, _, _, _, fun i => bs.getD i false, rfl, Walks.list (A := X.A.in1) (I.ok.hd hc) s.heap.objs.size p (Nat.ne_of_lt hlt) its.toArray, ⟨⟨_, Heap.get?_push_size _ rfl, rfl, rfl⟩, ?_⟩, fun i v s' Q' E' hi hq => ?_, fun h' tk hk => ?_⟩
 ·exact pl.isList.at fun o e => Heap.get?_push_of_some _ e
 ·have hi' : its[i]? = some v := by simpa using hi
  have hl := rv.length
  have hb : i < bs.length := by have := (List.getElem?_eq_some_iff.mp hi').1; simp at hl; omega
  obtain ⟨u, hu, ru⟩ := rv.get (i := i) (x := .bl bs[i]) (by simp [hb])
  rw [hi'] at hu; cases hu; cases ru
  dsimp only at hq; rw [List.getD_eq_getElem?_getD, List.getElem?_eq_getElem hb] at hq
  exact wpAny_truthy_bool hq
 ·have hl := rv.length
  simp at hl
  have e : (List.range its.toArray.size).all (fun i => bs.getD i false) = bs.all id := by
   rw [List.size_toArray, ← hl, Bool.eq_iff_iff]
   simp only [List.all_eq_true, List.mem_range, id]
   constructor
   ·intro h x hx
    obtain ⟨i, hi, e⟩ := List.mem_iff_getElem.mp hx
    have := h i hi
    rw [List.getD_eq_getElem?_getD, List.getElem?_eq_getElem hi] at this
    rw [← e]; exact this
   ·intro h i hi
    rw [List.getD_eq_getElem?_getD, List.getElem?_eq_getElem hi]
    exact h _ (List.getElem_mem hi)
  rw [e]
  refine ⟨.bl (bs.all id), H, I.kept fun b o eb => hk b o ?_ (Heap.get?_push_of_some _ eb), rfl, q⟩
  intro z
  have z' : b = s.heap.objs.size := by simpa using z
  exact absurd (Heap.lt_size eb) (by rw [z']; exact Nat.lt_irrefl _)
end
end L2

end

section
namespace L2
open PySem PySem.Spec PyProof.Rows
open AutoSeq1 (wpAny_loadPart')
section
variable {X : Cx}
def Got (H : Hp) (xs : List V) (Q : VK) : Prop := ∀ r H', Same H H' → H' r = some (.tup xs) → Q (.ref r) H'
theorem Inv.gotNew {pins : List (Addr × Obj)} {σ : St} {H : Hp} {s : Shared} {Q : VK} {xs : List V} {us : List Value} {t' : Nat} (I : Inv X pins σ H s) (q : Got H xs Q) (rv : Vals xs us) (hz : xs.length ≤ sizeLine) :
  EP X pins σ Q (.ref s.heap.objs.size) { s with heap := s.heap.push { cls := .type "tuple", data := .seq us.toArray }, toks := t' } :=
 ⟨.ref s.heap.objs.size, _, I.laid (o := .tup xs) (fun b ob e => Heap.get?_push_of_some _ e) (Nat.le_refl _) ⟨hz, us, rv, IsTup.new _ _⟩, rfl, q _ _ (Same.new (I.hok.fresh (Nat.le_refl _))) upd_same⟩
def rCat2 : R2 := fun x y H Q => ∃ a b xs ys, x = .ref a ∧ y = .ref b ∧ H a = some (.tup xs) ∧ H b = some (.tup ys) ∧ xs.length + ys.length ≤ 1000 ∧ Got H (xs ++ ys) Q
theorem o_catT : OpR X (binaryOp .Add) rCat2 := by
 intro pins s σ H x y v u Q I rx ry h
 obtain ⟨a, b, xs, ys, rfl, rfl, ha, hb, hz, q⟩ := h
 cases rx; cases ry
 obtain ⟨its, r1, ht, _⟩ := I.tuple (SqT.of ha)
 obtain ⟨its2, r2, ht2, _⟩ := I.tuple (SqT.of hb)
 obtain ⟨⟨cls, dd, data, sl⟩, ho, hc, n, hd⟩ := id ht; obtain ⟨⟨cls2, dd2, data2, sl2⟩, ho2, hc2, n2, hd2⟩ := id ht2; simp only at hc hd hc2 hd2; subst hc hd hc2 hd2
 have hl1 := r1.length; have hl2 := r2.length
 have hs : (1000 : Nat) ≤ sizeLine := by decide
 by_cases hv : its = []
 ·have e : xs = [] := by subst hv; cases r1; rfl
  refine concat_meets ⟨_, ho, rfl⟩ ⟨_, ho2, rfl⟩ noFill_tuple_add seq_tuple_add PySem.F.slot_tuple_add PySem.F.entry_tuple_add (PySem.F.args_tuple_add_2 _ _) (tuple_addW0 a b its.toArray its2.toArray n n2 dd dd2 sl sl2 (by simp [hv])) ⟨ho, ho2, ?_⟩
  exact ⟨.ref b, H, I, rfl, q b H (Same.refl _) (by rw [e]; exact hb)⟩
 ·by_cases hw : its2 = []
  ·have e : ys = [] := by subst hw; cases r2; rfl
   refine concat_meets ⟨_, ho, rfl⟩ ⟨_, ho2, rfl⟩ noFill_tuple_add seq_tuple_add PySem.F.slot_tuple_add PySem.F.entry_tuple_add (PySem.F.args_tuple_add_2 _ _) (tuple_addW1 a b its.toArray its2.toArray n n2 dd dd2 sl sl2 (by simpa using hv) (by simp [hw])) ⟨ho, ho2, ?_⟩
   exact ⟨.ref a, H, I, rfl, q a H (Same.refl _) (by rw [e, List.append_nil]; exact ha)⟩
  ·refine concat_meets ⟨_, ho, rfl⟩ ⟨_, ho2, rfl⟩ noFill_tuple_add seq_tuple_add PySem.F.slot_tuple_add PySem.F.entry_tuple_add (PySem.F.args_tuple_add_2 _ _)
    (tuple_addW2 a b its.toArray its2.toArray n n2 dd dd2 sl sl2 (by simpa using hv) (by simpa using hw) (by rw [List.size_toArray, List.size_toArray]; omega)) ⟨ho, ho2, ?_⟩
   have e : its.toArray ++ its2.toArray = (its ++ its2).toArray := by simp
   rw [e]
   exact I.gotNew (t' := s.toks) q (r1.append r2) (by rw [List.length_append]; omega)
theorem whole_cut {t sl : Addr} {items : Array Value} {vl vu : Value} {lo hi : Option Int} {Q : Value → Shared → Prop} {prog : Program} {w : World} {A : Around} {E : Value → Shared → Prop} {s : Shared} (ht : IsTup s.heap t items) (hs : s.heap.IsSliceOf sl vl vu .none) (pl : IsPart vl lo) (pu : IsPart vu hi)
  (hw : HT.sIx items.size 0 lo = 0 ∧ HT.sIx items.size items.size hi = items.size) (h : Q (.ref t) s) : wpAny (model prog w) A (getItem (.ref t) (.ref sl)) Q E s := by
 obtain ⟨os, hos, hcs, hds⟩ := id hs
 have hTs : s.TypeIs (.ref sl) "slice" := ⟨os, hos, hcs⟩
 unfold getItem
 try with_reducible refine wpAny_holding ?_
 first | refine wpAny_bind (wpAny_pure ?_) | skip
 refine wpAny_bind (wpAny_sequenceKey ht.typeIs (by decide) ?_)
 refine wpAny_bind (wpAny_callSpecial?_slot (name := Str.ofString "__getitem__") ht.typeIs PyProof.Rows.slot_tuple_getitem (wpAny_call_entry PyProof.Rows.slot_tuple_getitem ht.typeIs entry_tuple_getitem ?_ (args_tuple_getitem _ _)))
 show wpAny _ _ (Builtin.Tuple.tupleItemsOf (.ref t) >>= _) _ _ s; refine wpAny_bind (tupleItemsOf_ ht ?_); refine wpAny_bind (wpAny_typeOf hTs ?_); rw [if_pos (by decide)]
 refine wpAny_bind (HT.sliceApplied_gen hs pl pu ?_)
 rw [hw.1, hw.2]
 show wpAny _ _ (if (((0 : Nat) : Int) == 0 && (1 : Int) == 1 && (items.size - 0) == items.size) = true then _ else _) _ _ s
 rw [if_pos (by simp)]
 refine wpAny_bind (m := Builtin.Tuple.tupleIsExact _) ?_
 unfold Builtin.Tuple.tupleIsExact
 refine wpAny_bind (wpAny_typeOf ht.typeIs (wpAny_pure ?_))
 rw [if_pos (by decide)]
 exact wpAny_bind (wpAny_rule (wpAny_pure ⟨_, rfl, wpAny_pure h⟩))
def rSl2 : V → Option Int → Option Int → Hp → VK → Prop := fun x lo hi H Q => ∃ a xs, x = .ref a ∧ H a = some (.tup xs) ∧ Got H (cutV xs lo hi) Q
theorem s_tup : SlR X rSl2 := by
 intro pins s σ H x v vl vu lo hi sl Q I rx hs pl pu h
 obtain ⟨a, xs, rfl, ha, q⟩ := h
 cases rx
 obtain ⟨its, r, ht, hz⟩ := I.tuple (SqT.of ha)
 have hlen : its.toArray.size = xs.length := by rw [List.size_toArray]; exact r.length.symm
 refine ⟨"tuple", _, PyProof.Rows.slot_tuple_getitem.lookup, ht.typeIs, ?_⟩
 by_cases hw : HT.sIx xs.length 0 lo = 0 ∧ HT.sIx xs.length xs.length hi = xs.length
 ·refine whole_cut ht hs pl pu (by rw [hlen]; exact hw) ⟨.ref a, H, I, rfl, q a H (Same.refl _) ?_⟩
  unfold cutV
  rw [hw.1, hw.2, List.drop_zero, Nat.sub_zero, List.take_length]
  exact ha
 ·refine HT.getItem_tuple_cut ht hs pl pu (by rw [hlen]; exact hw) ?_ (by rw [hlen]; exact hz)
  rw [hlen]
  have e : its.toArray.toList = its := rfl
  rw [e]
  exact I.gotNew (t' := s.toks) q ((r.drop _).take _) (Nat.le_trans (cutV_length xs lo hi) hz)
theorem noFill_tuple_mul : fillsNumberSlot (.type "tuple") "mul" = pure false :=
 PySem.fillsNumberSlot_seq (id := "tuple.__mul__") (r := some (.builtin "tuple.__rmul__")) F.slot_tuple_mul.lookup (by decide +kernel) F.slot_tuple_rmul.lookup (by decide +kernel)
theorem repeat_tuple : seqRepeat? (.type "tuple") = pure (some (.builtin "tuple.__mul__")) := by
 unfold seqRepeat?; rw [PySem.seqSlot_of (T := "tuple") (name := "__mul__") (id := "tuple.__mul__") F.slot_tuple_mul.lookup (by decide +kernel), PySem.seqSlot_of (T := "tuple") (name := "__rmul__") (id := "tuple.__rmul__") F.slot_tuple_rmul.lookup (by decide +kernel)]; rfl
theorem rmul_tuple (a : Int) (t : Tok) (l : Addr) (items : Array Value) (n : Nat) (dd : Option Addr) (sl : Array (Option Value)) :
  Meets (Builtin.«int.__rmul__» ⟨[.int a t, .ref l], []⟩) (fun _ R s => s.heap.get? l = some { cls := .type "tuple", dict := dd, data := .seq items n, slots := sl } ∧ R (.ok (.ret Value.notImplemented)) s) :=
 .of_wp fun prog w A R s h => by obtain ⟨hp, g, d, tk, os⟩ := s; obtain ⟨hl, h⟩ := h; wp_walk using wpAny_loadPart' hl; exact ⟨_, rfl, h⟩
theorem mul_tuple (l : Addr) (items : Array Value) (n : Nat) (dd : Option Addr) (sl : Array (Option Value)) (x : Int) (u : Tok) (hc0 : ¬ (decide (x < -(2 ^ 63)) || decide (x ≥ 2 ^ 63)) = true) (hc1 : ¬ (items.isEmpty || x == 1) = true) (hc2 : ¬ (decide (x ≤ 0) || items.isEmpty) = true)
  (hc3 : ¬ (items.size : Int) * x > (2 ^ 63 - 1) / 8) (hc4 : ¬ Builtin.Tuple.tupleTooMany ((items.size : Int) * x) = true) (hsz : sizeOk (.seq ((List.replicate x.toNat items).foldl (fun a b => a ++ b) #[]))) :
  Meets (Builtin.«tuple.__mul__» ⟨[.ref l, .int x u], []⟩) (fun _ R s => s.heap.get? l = some { cls := .type "tuple", dict := dd, data := .seq items n, slots := sl } ∧ R (.ok (.ret (Value.ref s.heap.objs.size))) { s with heap := s.heap.push { cls := Value.type "tuple", data := Data.seq ((List.replicate x.toNat items).foldl (fun a b => a ++ b) #[]) } }) :=
 .of_wp fun prog w A R s h => by
  obtain ⟨hp, g, d, tk, os⟩ := s; obtain ⟨hl, h⟩ := h; have f1 := AutoSeq1.idx_int; have f2 := AutoSeq1.sub_tuple_tuple
  wp_walk using wpAny_loadPart' hl
  rw [if_neg hc0]
  refine wpAny_bind (tupleItemsOf_ (items := items) ⟨_, hl, rfl, n, rfl⟩ ?_)
  dsimp only
  rw [if_neg hc1, if_neg hc2, if_neg hc3, if_neg hc4]
  exact wpAny_bind (m := Builtin.Tuple.tupleExact _) (wpAny_newObj_type (wpAny_pure ⟨_, rfl, h⟩) hsz)
def rRepT : R2 := fun x y H Q => ∃ a k xs, x = .ref a ∧ y = .int k ∧ H a = some (.tup xs) ∧ xs ≠ [] ∧ 2 ≤ k ∧ k ≤ 100 ∧ xs.length ≤ 100 ∧ Got H (List.replicate k.toNat xs).flatten Q
theorem o_repT : OpR X (binaryOp .Mult) rRepT := by
  intro pins s σ H x y v u Q I rx ry h
  obtain ⟨a, k, xs, rfl, rfl, ha, hx, h1, h2, h3, q⟩ := h
  cases rx
  obtain ⟨t, rfl⟩ := ry
  obtain ⟨its, r, ht, hz⟩ := I.tuple (SqT.of ha)
  obtain ⟨⟨cls, dd, data, sl⟩, ho, hc, n, hd⟩ := id ht; simp only at hc hd; subst hc hd
  have hl := r.length
  refine wpAny_binaryOp_repeat_ref (T := "tuple") (U := "int") (by decide) ⟨_, ho, rfl⟩ (fun s' => typeIs_int s' k t) noFill_tuple_mul F.fills_int_mul F.slot_int_rmul repeat_tuple F.slot_int_index.lookup
    (call_meets F.slot_int_rmul (typeIs_int s k t) F.entry_int_rmul (F.args_int_rmul_2 _ _) (rmul_tuple k t a its.toArray n dd sl) ⟨ho, rfl, ⟨_, ho, rfl⟩, ?_⟩)
  have hx' : ¬ its.toArray.isEmpty = true := by
    intro z
    have z' : its = [] := by simpa using z
    subst z'; cases r; exact hx rfl
  have fl : (List.replicate k.toNat its.toArray).foldl (fun a b => a ++ b) #[] = (List.replicate k.toNat its).flatten.toArray := by
    have := foldl_rep its k.toNat []
    rw [List.nil_append] at this
    exact this
  have hp1 : (its.length : Int) * k ≤ 100 * 100 := Int.mul_le_mul (by omega) (by omega) (by omega) (by omega)
  have hlen : (List.replicate k.toNat its).flatten.length ≤ 10000 := by
    rw [len_rep]
    have : k.toNat * its.length ≤ 100 * 100 := Nat.mul_le_mul (by omega) (by omega)
    omega
  have hbig : (10000 : Nat) ≤ sizeLine := by decide
  refine call_meets F.slot_tuple_mul ⟨_, ho, rfl⟩ F.entry_tuple_mul (F.args_tuple_mul_2 _ _) (mul_tuple a its.toArray n dd sl k t (by simp; omega) (by simp only [hx', Bool.false_or]; simp; omega) (by simp only [hx', Bool.or_false]; simp; omega) (by rw [List.size_toArray]; omega)
    (by unfold Builtin.Tuple.tupleTooMany; rw [List.size_toArray]; simp; have : (sizeLine : Int) = 16777216 := by decide
        omega) (by rw [fl]; show (List.replicate k.toNat its).flatten.toArray.size ≤ sizeLine; rw [List.size_toArray]; omega)) ⟨ho, ?_⟩
  rw [fl]
  exact I.gotNew (t' := s.toks) q (r.rep k.toNat) (by rw [len_rep] at hlen ⊢; rw [hl]; omega)
end
end L2

end

section
namespace L2
open PySem PySem.Spec PyProof.Rows
open AutoSeq1 (wpAny_loadPart')
section
variable {X : Cx}
theorem revApplied {sl : Addr} {t : Tok} {n : Nat} {Q : Int × Int × Nat → Shared → Prop} {prog : Program} {w : World} {A : Around} {E : Value → Shared → Prop} {s : Shared} (hs : s.heap.IsSliceOf sl .none .none (.int (-1) t))
  (h : Q ((n : Int) - 1, -1, n) s) : wpAny (model prog w) A (Builtin.Slice.sliceApplied (.ref sl) (pure (n : Int))) Q E s := by
 obtain ⟨os, hos, hcs, hds⟩ := id hs
 unfold Builtin.Slice.sliceApplied Builtin.Slice.sliceFields
 refine wpAny_bind (wpAny_bind (wpAny_field hos hds (x := .none) rfl (wpAny_bind (wpAny_field hos hds (x := .none) rfl (wpAny_bind (wpAny_field hos hds (x := .int (-1) t) rfl (wpAny_pure ?_)))))))
 refine wpAny_bind (slicePart_int ?_)
 show wpAny _ _ (if ((-1 : Int) == 0) = true then _ else _) _ _ s
 rw [if_neg (by decide)]
 refine wpAny_bind (slicePart_none (wpAny_bind (slicePart_none (wpAny_bind (wpAny_pure ?_)))))
 show wpAny _ _ (pure (((n : Int) - 1), (-1 : Int), Builtin.Slice.slicePlaces ((n : Int) - 1) (-1) (-1))) _ _ s
 have e : Builtin.Slice.slicePlaces ((n : Int) - 1) (-1) (-1) = n := by
  unfold Builtin.Slice.slicePlaces
  rw [if_neg (by decide)]
  split <;> simp <;> omega
 rw [e]
 exact wpAny_pure h
theorem fm_congr {α β : Type} {f g : α → Option β} : ∀ (l : List α), (∀ k ∈ l, f k = g k) → l.filterMap f = l.filterMap g
 | [], _ => rfl
 | a :: l, h => by
  rw [List.filterMap_cons, List.filterMap_cons, h a List.mem_cons_self, fm_congr l fun k hk => h k (List.mem_cons_of_mem _ hk)]
theorem rev_pick (xs : List Value) : ((List.range xs.length).filterMap fun (k : Nat) => xs.toArray[(((xs.length : Int) - 1) + (k : Int) * (-1)).toNat]?).toArray = xs.reverse.toArray := by
 have e : ∀ k ∈ List.range xs.length, (fun (k : Nat) => xs.toArray[(((xs.length : Int) - 1) + (k : Int) * (-1)).toNat]?) k = xs.reverse[k]? := fun k hk => by
  have hk' := List.mem_range.mp hk
  have : (((xs.length : Int) - 1) + (k : Int) * (-1)).toNat = xs.length - 1 - k := by omega
  dsimp only
  rw [this, List.getElem?_reverse hk']
  simp
 rw [fm_congr _ e]
 congr 1
 have gen : ∀ (l : List Value) (n : Nat), n ≤ l.length → (List.range n).filterMap (fun k => l[k]?) = l.take n := fun l n => by
  induction n with
  | zero => intro _; simp
  | succ n ih =>
   intro hn
   rw [List.range_succ, List.filterMap_append, ih (by omega), List.take_add_one]
   rw [List.getElem?_eq_getElem (by omega)]
   simp [List.getElem?_eq_getElem (show n < l.length by omega)]
 have this : ∀ (l : List Value), (List.range l.length).filterMap (fun k => l[k]?) = l := fun l => by rw [gen l l.length (Nat.le_refl _), List.take_length]
 have := this xs.reverse
 rw [List.length_reverse] at this
 exact this
def cRev (te : TE) : TE := fun σ H Q => te σ H fun x H1 => ∃ a xs, x = .ref a ∧ H1 a = some (.tup xs) ∧ Got H1 xs.reverse Q
theorem c_rev {e st : Expr} {te : TE} {p2 pos : Pos} (he : PE X e te) (hst : PE X st (tC (.int (-1)))) : PE X (.Subscript e (.Slice none none (some st) p2) pos) (cRev te) := by
 intro pins s σ H Q I h
 refine Subscript_ (thn (he pins s σ H _ I h) fun v s1 ⟨x, H1, I1, r1, a, xs, ex, ha, q⟩ => ?_)
 subst ex
 cases r1
 refine wpAny_Slice ?_
 rw [evalPart_none]
 refine wpAny_pure (wpAny_pure ?_)
 rw [evalPart_some]
 refine thn (hst pins s1 σ H1 (fun v H' => v = .int (-1) ∧ H' = H1) I1 ⟨rfl, rfl⟩) fun u s3 ⟨y, H3, I3, r3, ey, eH⟩ => ?_
 subst ey eH
 obtain ⟨t, rfl⟩ := r3
 have I4 : Inv X pins σ H3 { s3 with heap := s3.heap.push { cls := .type "slice", data := .fields #[.none, .none, .int (-1) t] } } := I3.kept (t' := s3.toks) fun b ob q => Heap.get?_push_of_some _ q
 generalize hs4 : ({ s3 with heap := s3.heap.push { cls := .type "slice", data := .fields #[.none, .none, .int (-1) t] } } : Shared) = s4 at I4
 have hsl : s4.heap.IsSliceOf s3.heap.objs.size .none .none (.int (-1) t) := by rw [← hs4]; exact Heap.IsSliceOf.new ..
 obtain ⟨its, r, ht, hz⟩ := I4.tuple (SqT.of ha)
 obtain ⟨os, hos, hcs, hds⟩ := id hsl
 have hTs : s4.TypeIs (.ref s3.heap.objs.size) "slice" := ⟨os, hos, hcs⟩
 show wpAny (model X.prog X.w) X.A (subscriptTail e (.Slice none none (some st) p2) (.ref a) (.ref s3.heap.objs.size)) (EP X pins σ Q) X.xe s4
 refine tail_any (ops := [.ref a, .ref s3.heap.objs.size]) ht.typeIs PyProof.Rows.slot_tuple_getitem.lookup ?_ (by with_unfolding_all rfl)
 unfold getItem
 try with_reducible refine wpAny_holding ?_
 first | refine wpAny_bind (wpAny_pure ?_) | skip
 refine wpAny_bind (wpAny_sequenceKey ht.typeIs (by decide) ?_)
 refine wpAny_bind (wpAny_callSpecial?_slot (name := Str.ofString "__getitem__") ht.typeIs PyProof.Rows.slot_tuple_getitem (wpAny_call_entry PyProof.Rows.slot_tuple_getitem ht.typeIs entry_tuple_getitem ?_ (args_tuple_getitem _ _)))
 show wpAny _ _ (Builtin.Tuple.tupleItemsOf (.ref a) >>= _) _ _ s4; refine wpAny_bind (tupleItemsOf_ ht ?_); refine wpAny_bind (wpAny_typeOf hTs ?_); rw [if_pos (by decide)]
 have el : its.toArray.size = its.length := by simp
 rw [el]
 refine wpAny_bind (revApplied hsl ?_)
 show wpAny _ _ (if (((its.length : Int) - 1) == 0 && (-1 : Int) == 1 && its.length == its.length) = true then _ else _) _ _ s4
 rw [if_neg (by simp), rev_pick]
 have htake : sizeOk (.seq its.reverse.toArray) := by
  show its.reverse.toArray.size ≤ sizeLine
  have := r.length
  simp; omega
 have fin : EP X pins σ Q (.ref s4.heap.objs.size) { s4 with heap := s4.heap.push { cls := .type "tuple", data := .seq its.reverse.toArray } } := I4.gotNew (t' := s4.toks) q r.reverse (by rw [List.length_reverse]; exact hz)
 first
  | exact wpAny_bind (m := Builtin.Tuple.tupleExact _) (wpAny_newObj_type (wpAny_pure ⟨_, rfl, wpAny_pure fin⟩) htake)
  | exact wpAny_bind (m := Builtin.Tuple.tupleExact _) (wpAny_newObj_type (wpAny_bind (wpAny_pure (wpAny_pure ⟨_, rfl, wpAny_pure fin⟩))) htake)
  | exact wpAny_bind (wpAny_bind (m := Builtin.Tuple.tupleExact _) (wpAny_newObj_type (wpAny_pure (wpAny_pure ⟨_, rfl, wpAny_pure fin⟩)) htake))
theorem call_sorted : CallR X (.builtin "sorted") (fun xs H Q => ∃ (p : Addr) (ns : List Int), xs = [.ref p] ∧ H p = some (.lst (ns.map V.int)) ∧ ns.length < 64 ∧ ∀ (l : Addr) (ns' : List Int), H l = none → ns'.Perm ns → ns'.Pairwise (· ≤ ·) → Q (.ref l) (upd H l (.lst (ns'.map V.int)))) := by
 intro pins s σ H xs us Q I r h
 obtain ⟨p, ns, rfl, hp, hn, q⟩ := h
 obtain ⟨u, rfl, ru⟩ := r.one
 cases ru
 obtain ⟨its, rv, pl, hz⟩ := I.list (SqL.of hp)
 have hl := rv.length
 rw [List.length_map] at hl
 refine sorted_ints pl.isList (intsAre_of rv) (by omega) fun out ns' a1 a2 a3 => ?_
 obtain ⟨e, he⟩ := sortedAll_at s.heap its out
 have hfr : H (s.heap.objs.size + 1) = none := I.hok.fresh (Nat.le_succ _)
 refine ⟨.ref (s.heap.objs.size + 1), _, I.laid (t' := s.toks) (a := s.heap.objs.size + 1) (o := .lst (ns'.map V.int)) (fun b o eb => sortedAll_old eb) (Nat.le_succ _) ⟨?_, out.toList, e, vals_ints a1, ?_⟩, rfl, q _ ns' hfr a2 a3⟩
 ·rw [List.length_map, a2.length_eq]
  have : (64 : Nat) ≤ sizeLine := by decide
  omega
 ·simpa [seqObj] using he
theorem o_neL (hu : X.A.units < cLine) : OpR X (compareOp .NotEq) (fun x y H Q => ∃ (a b : Addr) (ns ms : List Int), x = .ref a ∧ y = .ref b ∧ H a = some (.lst (ns.map V.int)) ∧ H b = some (.lst (ms.map V.int)) ∧ ns.length = ms.length ∧ Q (.bl (!decide (ns = ms))) H) := by
 intro pins s σ H x y v u Q I rx ry h
 obtain ⟨a, b, ns, ms, rfl, rfl, ha, hb, hn, q⟩ := h
 cases rx; cases ry
 obtain ⟨its, r1, p1, _⟩ := I.list (SqL.of ha)
 obtain ⟨its2, r2, p2, _⟩ := I.list (SqL.of hb)
 have l1 := r1.length; have l2 := r2.length
 rw [List.length_map] at l1 l2
 refine SeqAt.RcNeAt.lists (e := fun j => ns.getD j 0 == ms.getD j 0) p1.isList p2.isList (by simp; omega) hu (fun j h1 h2 => ?_) _ _ _ _ (fin_bl I q ?_)
 ·have j1 : j < ns.length := by simp at h1; omega
  have j2 : j < ms.length := by omega
  obtain ⟨u1, e1, q1⟩ := r1.get (i := j) (x := .int ns[j]) (by simp [j1])
  obtain ⟨u2, e2, q2⟩ := r2.get (i := j) (x := .int ms[j]) (by simp [j2])
  obtain ⟨t1, rfl⟩ := q1; obtain ⟨t2, rfl⟩ := q2
  have g1 : its.toArray[j] = Value.int ns[j] t1 := by have := (List.getElem?_eq_some_iff.mp e1).2; simpa using this
  have g2 : its2.toArray[j] = Value.int ms[j] t2 := by have := (List.getElem?_eq_some_iff.mp e2).2; simpa using this
  rw [g1, g2, List.getD_eq_getElem?_getD, List.getD_eq_getElem?_getD, List.getElem?_eq_getElem j1, List.getElem?_eq_getElem j2]
  exact fun prog w E Q hq => wpAny_eqBool_int hq
 ·have e : (List.range its.toArray.size).all (fun j => ns.getD j 0 == ms.getD j 0) = decide (ns = ms) := by
   rw [List.size_toArray, ← l1, Bool.eq_iff_iff]
   simp only [List.all_eq_true, List.mem_range, beq_iff_eq, decide_eq_true_eq]
   constructor
   ·intro h
    apply List.ext_getElem hn
    intro i h1 h2
    have := h i h1
    rw [List.getD_eq_getElem?_getD, List.getD_eq_getElem?_getD, List.getElem?_eq_getElem h1, List.getElem?_eq_getElem h2] at this
    exact this
   ·intro h i _; rw [h]
  rw [e]
theorem o_neE (hu : X.A.units < cLine) : OpR X (compareOp .NotEq) (fun x y H Q => ∃ (a b : Addr) (xs : List V), x = .ref a ∧ y = .ref b ∧ H a = some (.tup xs) ∧ H b = some (.tup []) ∧ Q (.bl (!xs.isEmpty)) H) := by
 intro pins s σ H x y v u Q I rx ry h
 obtain ⟨a, b, xs, rfl, rfl, ha, hb, q⟩ := h
 cases rx; cases ry
 obtain ⟨its, r1, p1, _⟩ := I.tuple (SqT.of ha)
 obtain ⟨its2, r2, p2, _⟩ := I.tuple (SqT.of hb)
 cases r2
 refine SeqAt.RcNeAt.tuples (e := fun _ => true) p1 p2 hu (fun j h1 h2 => absurd h2 (by simp)) _ _ _ _ (fin_bl I q ?_)
 cases r1 with
 | nil => rfl
 | cons r t => simp
def cDict : TE := fun _ H Q => ∀ p, H p = none → Q (.ref p) (upd H p (.dK []))
def cDict1 : TE := fun _ H Q => ∀ p, H p = none → Q (.ref p) (upd H p (.dK [(.inl 0, .int 1)]))
def wideD : List (PyData × PyData) → Nat | [] => 2 | [(.int i, .int j)] => if i = 0 ∧ j = 1 then 6 else 10 ^ 9 | _ => 10 ^ 9
mutual
/-- how long a text may become -/
def wide : PyData → Nat
 | .none => 4 | .bool _ => 5 | .int i => if i.natAbs < 10 ^ 31 then 40 else 10 ^ 9 | .str x => (reprText x).length
 | .tuple ds => wideAll ds + 4 | .list ds => wideAll ds + 4 | .dict kvs => wideD kvs
def wideAll : List PyData → Nat
 | [] => 0
 | d :: ds => wide d + 2 + wideAll ds
end
end
end L2

end

section
namespace L2
open PySem PySem.Spec PyProof.Rows
theorem textFrom_up : ∀ (ts : List Str) (k : Nat) (acc : Str), (textFrom k acc ts).length ≤ acc.length + piled ts
 | [], k, acc => by show acc.length ≤ _; omega
 | t :: ts, k, acc => by
  have ih := textFrom_up ts
  unfold textFrom
  rw [PySem.piled_cons]
  refine Nat.le_trans (ih _ _) ?_
  have e : (acc ++ (if k > 0 then ", " else "" : String) ++ t).length = acc.length + (if k > 0 then 2 else 0) + t.length := by
   rw [strLen_append, strLen_append]
   split <;> rfl
  rw [e]
  split <;> omega
theorem listText_up (ts : List Str) : (listText ts).length ≤ piled ts + 2 := by
 unfold listText
 rw [strLen_append]
 have := textFrom_up ts 0 "["
 have e1 : (Str.ofString "[").length = 1 := rfl
 have e2 : (Str.ofString "]").length = 1 := rfl
 omega
theorem tupleText_up (ts : List Str) : (tupleText ts).length ≤ piled ts + 4 := by
 unfold tupleText
 rw [strLen_append, strLen_append]
 have e1 : (Str.ofString "(").length = 1 := rfl
 have e2 : (Str.ofString (if (ts.length == 1) = true then ",)" else ")")).length ≤ 2 := by
  split
  ·exact Nat.le_refl 2
  ·exact Nat.le_succ 1
 have e3 : (Str.join (Str.ofString ", ") ts).length ≤ piled ts := by
  cases ts with
  | nil => exact Nat.zero_le _
  | cons a r => have := join_length_add (a :: r) (by simp); omega
 omega
theorem int_short {i : Int} (h : i.natAbs < 10 ^ 31) : (Str.ofString (toString i)).length ≤ 40 := by
 have h1 := int_text_length_le10 (a := i) (k := 31) (by decide) h
 have h2 : (Str.ofString (toString i)).length = (toString i).length := by rw [PySem.ofString_length]
 omega
theorem int_log {i : Int} (h : i.natAbs < 10 ^ 31) : i.natAbs.log2 < 1920 := by
 by_cases z : i.natAbs = 0
 ·rw [z]; decide
 ·exact Nat.lt_trans ((Nat.log2_lt z).mpr (Nat.lt_trans h (show 10 ^ 31 < 2 ^ 120 by decide))) (by decide)
mutual
theorem wide_ok : ∀ d : PyData, wide d < 10 ^ 9 → d.showable = true ∧ d.shown.length ≤ wide d
 | .none, _ => ⟨rfl, by show 4 ≤ 4; decide⟩
 | .bool b, _ => ⟨rfl, by cases b <;> (unfold PyData.shown wide; decide)⟩
 | .int i, h => by
  unfold wide at h ⊢
  by_cases c : i.natAbs < 10 ^ 31
  ·rw [if_pos c]
   refine ⟨?_, ?_⟩
   ·unfold PyData.showable; exact decide_eq_true (int_log c)
   ·unfold PyData.shown; exact int_short c
  ·rw [if_neg c] at h; exact absurd h (Nat.lt_irrefl _)
 | .str x, h => ⟨rfl, by unfold PyData.shown wide; exact Nat.le_refl _⟩
 | .tuple ds, h => by
  unfold wide at h ⊢
  obtain ⟨a, b⟩ := wideAll_ok ds (by omega)
  refine ⟨by unfold PyData.showable; exact a, ?_⟩
  unfold PyData.shown
  exact Nat.le_trans (tupleText_up _) (by omega)
 | .list ds, h => by
  unfold wide at h ⊢
  obtain ⟨a, b⟩ := wideAll_ok ds (by omega)
  refine ⟨by unfold PyData.showable; exact a, ?_⟩
  unfold PyData.shown
  exact Nat.le_trans (listText_up _) (by omega)
 | .dict kvs, h => by
  unfold wide at h
  unfold wideD at h
  split at h
  ·exact ⟨rfl, by decide +kernel⟩
  ·split at h
   ·rename_i i j c
    obtain ⟨rfl, rfl⟩ := c
    exact ⟨by decide +kernel, by decide +kernel⟩
   ·exact absurd h (Nat.lt_irrefl _)
  ·exact absurd h (Nat.lt_irrefl _)
theorem wideAll_ok : ∀ ds : List PyData, wideAll ds < 10 ^ 9 → PyData.showableAll ds = true ∧ piled (PyData.shownAll ds) ≤ wideAll ds
 | [], _ => ⟨rfl, by decide⟩
 | d :: ds, h => by
  unfold wideAll at h ⊢
  obtain ⟨a, b⟩ := wide_ok d (by omega)
  obtain ⟨a', b'⟩ := wideAll_ok ds (by omega)
  refine ⟨by unfold PyData.showableAll; rw [a, a']; rfl, ?_⟩
  unfold PyData.shownAll
  rw [PySem.piled_cons]
  omega
end
section
variable {X : Cx} {pins : List (Addr × Obj)} {σ : St} {H : Hp} {s : Shared}
mutual
theorem Rep.reads {p : Addr} (I : Inv X pins σ H s) : ∀ (d : PyData) (v : V) (u : Value), d.hasDict = false → Rep p H d v → RelV v u → ∃ as, Reads s.heap u d as
 | .none, v, u, _, r, q => by unfold Rep at r; subst r; cases q; exact ⟨_, .none⟩
 | .bool b, v, u, _, r, q => by unfold Rep at r; subst r; cases q; exact ⟨_, .bool b⟩
 | .int i, v, u, _, r, q => by unfold Rep at r; subst r; obtain ⟨t, rfl⟩ := q; exact ⟨_, .int i t⟩
 | .str x, v, u, _, r, q => by unfold Rep at r; subst r; obtain ⟨t, rfl⟩ := q; exact ⟨_, .str x t⟩
 | .tuple ds, v, u, hd, r, q => by
  unfold Rep at r
  obtain ⟨a, xs, rfl, ha, rs⟩ := r
  cases q
  obtain ⟨its, rv, ⟨o, ho, hc, n, hdt⟩, _⟩ := I.tuple (SqT.of ha)
  obtain ⟨as, ra⟩ := Reps.reads I ds xs its (by unfold PyData.hasDict at hd; exact hd) rs rv
  exact ⟨as, .tuple ho hc hdt ra⟩
 | .list ds, v, u, hd, r, q => by
  unfold Rep at r
  obtain ⟨a, xs, rfl, _, ha, rs⟩ := r
  cases q
  obtain ⟨its, rv, ⟨o, n, ho, hc, _, hdt⟩, _⟩ := I.list (SqL.of ha)
  obtain ⟨as, ra⟩ := Reps.reads I ds xs its (by unfold PyData.hasDict at hd; exact hd) rs rv
  exact ⟨a :: as, .list ho hc hdt ra⟩
 | .dict kvs, v, u, hd, _, _ => by unfold PyData.hasDict at hd; cases hd
theorem Reps.reads {p : Addr} (I : Inv X pins σ H s) : ∀ (ds : List PyData) (xs : List V) (us : List Value), PyData.hasDictAll ds = false → Reps p H ds xs → Vals xs us → ∃ as, ReadsAll s.heap us ds as
 | [], xs, us, _, r, q => by unfold Reps at r; subst r; cases q; exact ⟨_, .nil⟩
 | d :: ds, xs, us, hd, r, q => by
  unfold Reps at r
  obtain ⟨x, t, rfl, rx, rt⟩ := r
  unfold PyData.hasDictAll at hd
  obtain ⟨h1, h2⟩ := Bool.or_eq_false_iff.mp hd
  cases q with
  | cons q1 q2 =>
   obtain ⟨as, ra⟩ := Rep.reads I d x _ h1 rx q1
   obtain ⟨bs, rb⟩ := Reps.reads I ds t _ h2 rt q2
   exact ⟨as ++ bs, .cons ra rb⟩
end
mutual
/-- data without lists -/
def noLst : PyData → Bool
 | .list _ => false | .tuple ds => noLsts ds | .none => true | .bool _ => true | .int _ => true | .str _ => true | .dict _ => true
def noLsts : List PyData → Bool
 | [] => true
 | d :: ds => noLst d && noLsts ds
end
mutual
theorem Rep.readsD {p : Addr} (I : Inv X pins σ H s) : ∀ (d : PyData) (v : V) (u : Value), noLst d = true → Rep p H d v → RelV v u → ∃ as, Reads s.heap u d as ∧ ¬ sysModules ∈ as
 | .none, v, u, _, r, q => by unfold Rep at r; subst r; cases q; exact ⟨_, .none, List.not_mem_nil⟩
 | .bool b, v, u, _, r, q => by unfold Rep at r; subst r; cases q; exact ⟨_, .bool b, List.not_mem_nil⟩
 | .int i, v, u, _, r, q => by unfold Rep at r; subst r; obtain ⟨t, rfl⟩ := q; exact ⟨_, .int i t, List.not_mem_nil⟩
 | .str x, v, u, _, r, q => by unfold Rep at r; subst r; obtain ⟨t, rfl⟩ := q; exact ⟨_, .str x t, List.not_mem_nil⟩
 | .tuple ds, v, u, hd, r, q => by
  unfold Rep at r
  obtain ⟨a, xs, rfl, ha, rs⟩ := r
  cases q
  obtain ⟨its, rv, ⟨o, ho, hc, n, hdt⟩, _⟩ := I.tuple (SqT.of ha)
  obtain ⟨as, ra, hn⟩ := Reps.readsD I ds xs its (by unfold noLst at hd; exact hd) rs rv
  exact ⟨as, .tuple ho hc hdt ra, hn⟩
 | .list ds, v, u, hd, r, q => by unfold noLst at hd; cases hd
 | .dict kvs, v, u, hd, r, q => by
  unfold Rep at r
  obtain ⟨a, ks, rfl, _, dk, hb⟩ := r
  cases q
  obtain ⟨_, hne, vs, kv, o, es, ep, ho, hx, hdt, hl0, hl, hll⟩ := I.hok a _ hb
  have hsm : sysModules ≠ a := fun e => by rw [← e] at hne; simp at hne
  rcases dk with ⟨rfl, rfl⟩ | ⟨rfl, rfl⟩
  ·cases kv
   have hes : es.toList = [] := by
    generalize es.toList = l at hl
    cases hl; rfl
   exact ⟨a :: [] ++ [], .dict ho hx.1 hdt (by rw [hes]; exact .nil) (by rw [hes]; exact .nil), by simpa using hsm⟩
  ·cases kv with
   | cons h1 t1 =>
    cases t1
    obtain ⟨e1, e2⟩ := h1
    generalize hes : es.toList = l at hl
    cases hl with
    | cons k1 k2 k3 =>
     cases k3
     rename_i kv' e
     have k1' : keyIs (.inl 0) e.key = true := by
      have e1' : (Sum.inl 0 : Key) = kv'.1 := e1
      rw [e1']; exact k1
     obtain ⟨t, ht⟩ : ∃ t, e.key = Value.int 0 t := by
      rcases keyIs_shape k1' with ⟨i, t, h, h'⟩ | ⟨x, t, h, _⟩
      ·cases h; exact ⟨t, h'⟩
      ·cases h
     obtain ⟨t1, ht1⟩ : ∃ t, kv'.2 = Value.int 1 t := e2
     refine ⟨a :: ([] ++ []) ++ ([] ++ []), .dict (kvs := [(.int 0, .int 1)]) ho hx.1 hdt ?_ ?_, by simpa using hsm⟩
     ·rw [hes]
      show ReadsAll _ [e.key] [.int 0] _
      rw [ht]
      exact .cons (.int 0 t) .nil
     ·rw [hes]
      show ReadsAll _ [e.val] [.int 1] _
      rw [k2, ht1]
      exact .cons (.int 1 t1) .nil
theorem Reps.readsD {p : Addr} (I : Inv X pins σ H s) : ∀ (ds : List PyData) (xs : List V) (us : List Value), noLsts ds = true → Reps p H ds xs → Vals xs us → ∃ as, ReadsAll s.heap us ds as ∧ ¬ sysModules ∈ as
 | [], xs, us, _, r, q => by unfold Reps at r; subst r; cases q; exact ⟨_, .nil, List.not_mem_nil⟩
 | d :: ds, xs, us, hd, r, q => by
  unfold Reps at r
  obtain ⟨x, t, rfl, rx, rt⟩ := r
  unfold noLsts at hd
  obtain ⟨h1, h2⟩ := (Bool.and_eq_true _ _).mp hd
  cases q with
  | cons q1 q2 =>
   obtain ⟨as, ra, ha⟩ := Rep.readsD I d x _ h1 rx q1
   obtain ⟨bs, rb, hb⟩ := Reps.readsD I ds t _ h2 rt q2
   exact ⟨as ++ bs, .cons ra rb, fun z => (List.mem_append.mp z).elim ha hb⟩
end
structure Nice (d : PyData) : Prop where
 w : wide d ≤ 1000000
 dp : d.depth ≤ 20
 nd : d.hasDict = false ∨ noLst d = true
def rRepr : List V → Hp → VK → Prop := fun xs H Q => match xs with | [v] => ∃ p d, Rep p H d v ∧ Nice d ∧ Q (.str d.shown) H | _ => False
theorem call_repr {k : Nat} (hr : Room k X.A) : CallR X (.builtin "repr") rRepr := by
 intro pins s σ H xs us Q I r h
 unfold rRepr at h
 split at h
 ·rename_i v
  obtain ⟨p, d, rd, nd, q⟩ := h
  obtain ⟨u, rfl, ru⟩ := r.one
  obtain ⟨sh, sl⟩ := wide_ok d (Nat.lt_of_le_of_lt nd.w (by decide))
  have big : (1000000 : Nat) ≤ sizeLine := by decide
  have hsz : d.shown.length ≤ sizeLine := Nat.le_trans sl (Nat.le_trans nd.w big)
  have un := hr.un
  have fin : ∀ h' tk t, (∀ b o, s.heap.get? b = some o → h'.get? b = some o) → EP X pins σ Q (.str d.shown t) { s with heap := h', toks := tk } := fun h' tk t hk => ⟨.str d.shown, H, I.kept hk, ⟨t, rfl⟩, q⟩
  have isref : ∀ a, u = .ref a → wpAny (model X.prog X.w) X.A (call (.builtin "repr") [u]) (EP X pins σ Q) X.xe s := fun a e => by
   subst e
   have dpt : X.A.units + (d.depth + 1) < cLine := by have := nd.dp; omega
   rcases nd.nd with hd | hd
   ·obtain ⟨as, ra⟩ := Rep.reads I d v _ hd rd ru
    exact repr_of_reads' ra sh (PyData.noDict_hsm hd) hr.gd dpt (fun _ _ e => e) (fun h' t tk hk => fin h' tk t hk) hsz
   ·obtain ⟨as, ra, hm⟩ := Rep.readsD I d v _ hd rd ru
    exact repr_of_reads' ra sh (fun _ => hm) hr.gd dpt (fun _ _ e => e) (fun h' t tk hk => fin h' tk t hk) hsz
  cases d with
  | none => unfold Rep at rd; subst rd; cases ru; exact PySem.P.repr_of_none (fin s.heap _ _ fun _ _ e => e)
  | bool b => unfold Rep at rd; subst rd; cases ru; exact PySem.P.repr_of_bool (by have := fin s.heap (s.toks + 1) s.toks fun _ _ e => e; unfold PyData.shown at this; exact this)
  | int i =>
   unfold Rep at rd; subst rd; obtain ⟨t, rfl⟩ := ru
   refine PySem.P.repr_of_int ?_ (by have := fin s.heap (s.toks + 1) s.toks fun _ _ e => e; unfold PyData.shown at this; exact this)
   unfold PyData.showable at sh; exact of_decide_eq_true sh
  | str x =>
   unfold Rep at rd; subst rd; obtain ⟨t, rfl⟩ := ru
   exact PySem.P.repr_of_str (by have := fin s.heap (s.toks + 1) s.toks fun _ _ e => e; unfold PyData.shown at this; exact this) (by unfold PyData.shown at hsz; exact hsz)
  | tuple ds => have rd' := rd; unfold Rep at rd'; obtain ⟨a, xs, rfl, _⟩ := rd'; exact isref a ru
  | list ds => have rd' := rd; unfold Rep at rd'; obtain ⟨a, xs, rfl, _⟩ := rd'; exact isref a ru
  | dict kvs => have rd' := rd; unfold Rep at rd'; obtain ⟨a, ks, rfl, _⟩ := rd'; exact isref a ru
 ·exact h.elim
theorem Inv.big (I : Inv X pins σ H s) : sysModules < s.heap.objs.size := by
 have h : mainGlobals < s.heap.objs.size := (I.mod.glob.keeps I.bk).lt
 exact Nat.lt_trans (by decide) h
theorem c_dict {pos : Pos} : PE X (.Dict [] [] pos) cDict := fun pins s σ H Q I h =>
 wpAny_Dict_empty ⟨.ref s.heap.objs.size, _, I.laid (a := s.heap.objs.size) (o := .dK []) (t' := s.toks) (fun _ _ q => Heap.get?_push_of_some _ q) (Nat.le_refl _) ⟨Nat.zero_le _, beq_eq_false_iff_ne.mpr (Ne.symm (Nat.ne_of_lt I.big)), [], .nil, Heap.DictOf.new s.heap⟩, rfl, h _ (I.hok.fresh (Nat.le_refl _))⟩
theorem c_dict1 {pos p1 p2 : Pos} {j1 j2 : Nat} : PE X (.Dict [some (.Constant (.int 0) j1 p1)] [.Constant (.int 1) j2 p2] pos) cDict1 := fun pins s σ H Q I h => by
 refine wpAny_Dict_walk (knd := mixKind X.prog X.w) rfl rfl (by simp) (by show 1 ≤ 15; decide) ?_
 refine pairTrees_cons_walk (wpAny_Constant_int (wpAny_Constant_int (pairTrees_nil_walk ?_)))
 refine ⟨[(.inl 0, _)], ⟨rfl, rfl, trivial⟩, Heap.DictOf.new _, fun h' hm hsb => ?_⟩
 ·exact ⟨.ref s.heap.objs.size, _, I.laid (a := s.heap.objs.size) (o := .dK [(.inl 0, .int 1)]) (fun b o e => (hsb.2 b (Nat.ne_of_lt (Heap.lt_size e))).trans (Heap.get?_push_of_some _ e)) (Nat.le_refl _) ⟨by show 1 ≤ sizeLine; decide, beq_eq_false_iff_ne.mpr (Ne.symm (Nat.ne_of_lt I.big)), _, .cons ⟨rfl, ⟨_, rfl⟩⟩ .nil, hm⟩, rfl, h _ (I.hok.fresh (Nat.le_refl _))⟩
end
end L2

end

section
namespace L2
open PySem PySem.Spec PyProof.Rows
section
variable {X : Cx} {P : Program} {w : World}
theorem ixL (K : PySem.W.Frag) (h : X.K = K := by rfl) : IxR X (rIxL K) := h ▸ ix_list
theorem ixT (K : PySem.W.Frag) (h : X.K = K := by rfl) : IxR X (rIxT K) := h ▸ ix_tup
theorem slL (K : PySem.W.Frag) (h : X.K = K := by rfl) : SlR X (rSlL K) := h ▸ sl_list
theorem ninS (K : PySem.W.Frag) (h : X.K = K := by rfl) : OpR X (compareOp .NotIn) (rIn K true) := h ▸ op_notIn_seq
def rLen (K : PySem.W.Frag) : List V → Hp → VK → Prop := fun xs H Q => ∃ p ys, xs = [.ref p] ∧ (SqL K H p ys ∨ SqT K H p ys) ∧ Q (.int (ys : List V).length) H
theorem lenS (K : PySem.W.Frag) (h : X.K = K := by rfl) : CallR X (.builtin "len") (rLen K) := h ▸ call_len_seq
def rLstOf (K : PySem.W.Frag) : List V → Hp → VK → Prop := fun xs H Q => ∃ p ys, xs = [.ref p] ∧ (SqL K H p ys ∨ SqT K H p ys) ∧ ∀ l, H l = none → Q (.ref l) (upd H l (.lst ys))
theorem lstOf (K : PySem.W.Frag) (h : X.K = K := by rfl) : CallR X (.type "list") (rLstOf K) := h ▸ call_list_of
def rTupOf (K : PySem.W.Frag) : List V → Hp → VK → Prop := fun xs H Q => ∃ p ys, xs = [.ref p] ∧ ((SqL K H p ys ∧ ∀ l, H l = none → Q (.ref l) (upd H l (.tup ys))) ∨ (SqT K H p ys ∧ Q (.ref p) H))
theorem tupOf (K : PySem.W.Frag) (h : X.K = K := by rfl) : CallR X (.type "tuple") (rTupOf K) := h ▸ call_tuple_of
theorem pgT (K : PySem.W.Frag) {es : List Expr} {k : Nat} {t : TGs} {n : Nat} {pos : Pos} (h : PGs X es t) (hK : X.K = K := by rfl) (hc : X.calm = true := by rfl) (hn : (assignEach es X.env).length = n := by rfl) (hst : (assignEach es X.env).findIdx? (·.1) = none := by rfl) :
  PG X (.Tuple es k pos) (gTup K n t) := hK ▸ pg_tup hc h hn hst
theorem piL (K : PySem.W.Frag) {tg l : Expr} {tl : TE} (hl : PE X l tl) (h : X.K = K := by rfl) : PI X tg l (iList K tl) := h ▸ pi_list hl
theorem piT (K : PySem.W.Frag) {tg l : Expr} {tl : TE} (hl : PE X l tl) (h : X.K = K := by rfl) : PI X tg l (iTup K tl) := h ▸ pi_tup hl
theorem piZTL (P : Program) (w : World) (K : PySem.W.Frag) {es : List Expr} {k : Nat} {p pos pos' : Pos} {e1 e2 : Expr} {ta : TA} (hg : Gl X "zip") (hm : X.mg "zip" = none) (ha : PA X [e1, e2] ta) (hP : X.prog = P := by rfl) (hw : X.w = w := by rfl) (hK : X.K = K := by rfl)
  (hs : starEach [e1, e2] X.env = [(false, eval e1 X.env), (false, eval e2 X.env)] := by rfl) (hs2 : starEach [e2] X.env = [(false, eval e2 X.env)] := by rfl) :
  PI X (.Tuple es k pos') (.Call (.Name "zip" p) [e1, e2] [] pos) (iZip (seqT P w K) (seqL P w K) ta) := by subst hP hw hK; exact pi_zipTL hg hm ha hs hs2
end
theorem PA.weak {X : Cx} {es : List Expr} {t t' : TA} (h : PA X es t) (w : ∀ σ H Q, t' σ H Q → t σ H Q) : PA X es t' := fun pos pins s σ H Q I q => h pos pins s σ H Q I (w σ H Q q)
def isD1 (i j : Int) : List (PyData × PyData) → Bool | [(.int a, .int b)] => a == 0 && b == 1 && i == 0 && j == 1 | _ => false
theorem isD1_of {i j : Int} {kvs : List (PyData × PyData)} (h : isD1 i j kvs = true) : kvs = [(.int 0, .int 1)] ∧ i = 0 ∧ j = 1 := by
 unfold isD1 at h
 split at h
 ·simp only [Bool.and_eq_true, beq_iff_eq] at h
  obtain ⟨⟨⟨rfl, rfl⟩, rfl⟩, rfl⟩ := h
  exact ⟨rfl, rfl, rfl⟩
 ·cases h
mutual
def isK : PyData → Expr → Bool
 | .none, e => match e with | .Constant .none _ _ => true | _ => false
 | .bool b, e => match e with | .Constant (.bool c) _ _ => b == c | _ => false
 | .int i, e => match e with
  | .Constant (.int j) _ _ => i == j
  | .UnaryOp .USub (.Constant (.int j) _ _) _ => i == -j
  | .BinOp (.Constant (.int a) _ _) .Pow (.Constant (.int b) _ _) _ => decide (0 ≤ b ∧ b ≤ 1000 ∧ a.natAbs < 1000) && i == a ^ b.toNat
  | _ => false
 | .str x, e => match e with | .Constant (.str y) _ _ => x == y | _ => false
 | .tuple ds, e => match e with | .Tuple es _ _ => isKs ds es && Nat.ble ds.length 64 | _ => false
 | .list ds, e => match e with | .List es _ => isKs ds es && Nat.ble ds.length 64 | _ => false
 | .dict kvs, e => match e with | .Dict [] [] _ => kvs.isEmpty | .Dict [some (.Constant (.int i) _ _)] [.Constant (.int j) _ _] _ => isD1 i j kvs | _ => false
def isKs : List PyData → List Expr → Bool
 | [], es => match es with | [] => true | _ => false
 | d :: ds, es => match es with | e :: es => isK d e && isKs ds es | [] => false
end
def tData (d : PyData) : TE := fun _ H Q => ∀ v H', Same H H' → (∀ p, H p ≠ none → Rep p H' d v) → Q v H'
def tDatas (ds : List PyData) : TA := fun _ H Q => ∀ vs H', Same H H' → vs.length = ds.length → (∀ p, H p ≠ none → Reps p H' ds vs) → Q vs H'
theorem isK_star {d : PyData} {e : Expr} {es : List Expr} {env : Env} (h : isK d e = true) : starEach (e :: es) env = (false, eval e env) :: starEach es env := by
 cases e <;> first | rfl | (cases d <;> cases h)
theorem Same.some_ne {H H' : Hp} {p a : Addr} (s : Same H H') (h : H p ≠ none) (n : H' a = none) : a ≠ p := by
 intro e
 subst e
 cases z : H a with
 | none => exact h z
 | some o => rw [s _ _ z] at n; cases n
theorem Same.some {H H' : Hp} {p : Addr} (s : Same H H') (h : H p ≠ none) : H' p ≠ none := by
 intro e
 cases z : H p with
 | none => exact h z
 | some o => rw [s _ _ z] at e; cases e
mutual
theorem pe_dat {X : Cx} : ∀ (d : PyData) (e : Expr), isK d e = true → PE X e (tData d)
 | .none, e, h => by
  unfold isK at h
  split at h
  ·exact pe_non.weak fun σ H Q q => q _ _ (Same.refl _) fun _ _ => Rep.non
  ·cases h
 | .bool b, e, h => by
  unfold isK at h
  split at h
  ·have e := eq_of_beq h
   subst e
   exact pe_bl.weak fun σ H Q q => q _ _ (Same.refl _) fun _ _ => Rep.bl
  ·cases h
 | .int i, e, h => by
  unfold isK at h
  split at h
  ·have e := eq_of_beq h
   subst e
   exact pe_int.weak fun σ H Q q => q _ _ (Same.refl _) fun _ _ => Rep.int
  ·have e := eq_of_beq h
   subst e
   exact (pe_un un_neg pe_int).weak fun σ H Q q => ⟨_, rfl, q _ _ (Same.refl _) fun _ _ => Rep.int⟩
  ·obtain ⟨c, e⟩ := Bool.and_eq_true_iff.mp h
   have e := eq_of_beq e
   subst e
   exact (pe_op o_pow pe_int pe_int).weak fun σ H Q q => ⟨(by have c := of_decide_eq_true c; exact ⟨c.1, by omega, Nat.lt_trans c.2.2 (by decide)⟩), q _ _ (Same.refl _) fun _ _ => Rep.int⟩
  ·cases h
 | .str x, e, h => by
  unfold isK at h
  split at h
  ·have e := eq_of_beq h
   subst e
   exact pe_str.weak fun σ H Q q => q _ _ (Same.refl _) fun _ _ => Rep.str
  ·cases h
 | .tuple ds, e, h => by
  unfold isK at h
  split at h
  ·obtain ⟨h1, h2⟩ := Bool.and_eq_true_iff.mp h
   refine (c_tup (pa_dat ds _ h1)).weak fun σ H Q q => ?_
   intro vs H1 s l r
   rw [← l] at h2
   show (match Nat.ble vs.length 64 with | true => _ | false => False)
   rw [h2]
   intro a ha
   exact q _ _ (s.trans (Same.new ha)) fun p hp => Rep.tup upd_same (Reps.ev (Ev.new ha) _ _ (r p hp))
  ·cases h
 | .list ds, e, h => by
  unfold isK at h
  split at h
  ·obtain ⟨h1, h2⟩ := Bool.and_eq_true_iff.mp h
   refine (c_lst (pa_dat ds _ h1)).weak fun σ H Q q => ?_
   intro vs H1 s l r
   rw [← l] at h2
   show (match Nat.ble vs.length 64 with | true => _ | false => False)
   rw [h2]
   intro a ha
   exact q _ _ (s.trans (Same.new ha)) fun p hp => Rep.lst (s.some_ne hp ha) upd_same (Reps.ev (Ev.new ha) _ _ (r p hp))
  ·cases h
 | .dict kvs, e, h => by
  unfold isK at h
  split at h
  ·have e : kvs = [] := by cases kvs with | nil => rfl | cons a b => cases h
   subst e
   refine c_dict.weak fun σ H Q q => ?_
   intro a ha
   refine q _ _ (Same.new ha) fun p hp => ?_
   unfold Rep
   exact ⟨a, _, rfl, (Same.refl H).some_ne hp ha, .inl ⟨rfl, rfl⟩, upd_same⟩
  ·obtain ⟨rfl, rfl, rfl⟩ := isD1_of h
   refine c_dict1.weak fun σ H Q q => ?_
   intro a ha
   refine q _ _ (Same.new ha) fun p hp => ?_
   unfold Rep
   exact ⟨a, _, rfl, (Same.refl H).some_ne hp ha, .inr ⟨rfl, rfl⟩, upd_same⟩
  ·cases h
theorem pa_dat {X : Cx} : ∀ (ds : List PyData) (es : List Expr), isKs ds es = true → PA X es (tDatas ds)
 | [], es, h => by
  unfold isKs at h
  split at h
  ·exact pa_nil.weak fun σ H Q q => q _ _ (Same.refl _) rfl fun _ _ => .nil
  ·cases h
 | d :: ds, es, h => by
  unfold isKs at h
  split at h
  ·obtain ⟨h1, h2⟩ := Bool.and_eq_true_iff.mp h
   refine (pa_cons (pe_dat d _ h1) (pa_dat ds _ h2) (isK_star h1)).weak fun σ H Q q => ?_
   intro v H1 s1 r1 vs H2 s2 l r2
   exact q _ _ (s1.trans s2) (by rw [List.length_cons, List.length_cons, l]) fun p hp => .cons (Rep.ev (Ev.same s2) _ _ (r1 p hp)) (r2 p (s1.some hp))
  ·cases h
end
end L2

end

section
namespace L2
open PySem PySem.Spec PyProof.Rows
section
variable {X : Cx}
end
section
variable {X : Cx} {tg : Expr}
end
end L2

end

section
namespace MF
open PySem PySem.Spec PyProof.Rows L2
structure PL where
 bs : List (Int × Int)
 es : List (Int × Int × Int)
 lo : Int
 hi : Int
 st : Int
abbrev bD (q : Int × Int) : PyData := .tuple [.int q.1, .int q.2]
abbrev eD (q : Int × Int × Int) : PyData := .tuple [.int q.1, .int q.2.1, .int q.2.2]
def PL.d (P : PL) : PyData := .tuple [.tuple (P.bs.map bD), .tuple (P.es.map eD), .tuple [.int P.lo, .int P.hi, .int P.st]]
structure PL.ok (P : PL) : Prop where
 b : ∀ q ∈ P.bs, 1 ≤ q.1 ∧ q.1 ≤ 9 ∧ 1 ≤ q.2 ∧ q.2 ≤ 9
 b1 : 1 ≤ P.bs.length
 b4 : P.bs.length ≤ 4
 e : ∀ q ∈ P.es, 1 ≤ q.1 ∧ q.1 ≤ 9 ∧ 0 ≤ q.2.1 ∧ q.2.1 ≤ 7 ∧ 1 ≤ q.2.2 ∧ q.2.2 ≤ 8
 e4 : P.es.length ≤ 4
 lo0 : 0 ≤ P.lo
 ls : P.lo ≤ P.st
 sh : P.st ≤ P.hi
 h4 : P.hi ≤ 40
structure FT where
 b : Int
 out : Bool
 f : Int
 l : Int
def wS (b : Bool) : Str := if b then "out" else "scaled"
abbrev FT.d (x : FT) : PyData := .tuple [.int x.b, .str (wS x.out), .int x.f, .int x.l]
structure SY where
 ex : List Int
 fs : List FT
def SY.d (S : SY) : PyData := .tuple [.tuple (S.ex.map .int), .tuple (S.fs.map FT.d)]
structure FT.ok (x : FT) (n h : Nat) : Prop where
 b0 : 0 ≤ x.b
 bn : x.b < n
 f0 : 0 ≤ x.f
 fl : x.f ≤ x.l
 lh : x.l < h
structure SY.ok (S : SY) (n : Nat) : Prop where
 x1 : 1 ≤ S.ex.length
 x8 : S.ex.length ≤ 8
 x : ∀ u ∈ S.ex, 0 ≤ u ∧ u ≤ 20
 f4 : S.fs.length ≤ 4
 f : ∀ x ∈ S.fs, x.ok n S.ex.length
def capU (ws : List Bool) (m : Int) : Int := if ws.any id then 0 else if ws.any (!·) then m / 2 else m
def hitF (b h : Int) (x : FT) : Bool := x.b == b && decide (x.f ≤ h) && decide (h ≤ x.l)
def wordsOf (fs : List FT) (b h : Int) : List Bool := (fs.filter (hitF b h)).map FT.out
def capsIn (bs : List (Int × Int)) (fs : List FT) (h : Int) : List Int := bs.zipIdx.map fun q => capU (wordsOf fs q.2 h) q.1.1
def drawn (q : Int × Int × Int) (h : Int) : Int := if h < q.2.1 ∨ (h - q.2.1) % q.2.2 ≠ 0 then 0 else q.1
def draws (P : PL) (S : SY) : List Int := S.ex.zipIdx.map fun q => q.1 + (P.es.map fun e => drawn e q.2).sum
abbrev rowD (r : List Int) : PyData := .tuple (r.map .int)
def ret (H : Hp) (Q : VK) (p : Addr) (d : PyData) : Prop := ∀ v H', Same H H' → Rep p H' d v → Q v H'
structure Small (n k : Nat) (d : PyData) : Prop where
 w : wide d ≤ n
 dp : d.depth ≤ k
 nd : d.hasDict = false
theorem smallAll {n k : Nat} : ∀ {ds : List PyData}, (∀ d ∈ ds, Small n k d) → wideAll ds ≤ (n + 2) * ds.length ∧ PyData.depthAll ds ≤ k ∧ PyData.hasDictAll ds = false
 | [], _ => ⟨by unfold wideAll; exact Nat.zero_le _, by unfold PyData.depthAll; exact Nat.zero_le _, rfl⟩
 | d :: ds, h => by
  obtain ⟨a, b, c⟩ := smallAll fun x hx => h x (List.mem_cons_of_mem _ hx)
  have s := h d List.mem_cons_self
  refine ⟨?_, ?_, ?_⟩
  ·unfold wideAll
   rw [List.length_cons, Nat.mul_add]
   have := s.w; omega
  ·unfold PyData.depthAll; exact Nat.max_le.mpr ⟨s.dp, b⟩
  ·unfold PyData.hasDictAll; rw [s.nd, c]; rfl
theorem small_tup {n k m : Nat} {ds : List PyData} (h : ∀ d ∈ ds, Small n k d) (hm : (n + 2) * ds.length + 4 ≤ m) : Small m (k + 1) (.tuple ds) := by
 obtain ⟨a, b, c⟩ := smallAll h
 exact ⟨by unfold wide; omega, by unfold PyData.depth; omega, by unfold PyData.hasDict; exact c⟩
theorem small_lst {n k m : Nat} {ds : List PyData} (h : ∀ d ∈ ds, Small n k d) (hm : (n + 2) * ds.length + 4 ≤ m) : Small m (k + 1) (.list ds) := by
 obtain ⟨a, b, c⟩ := smallAll h
 exact ⟨by unfold wide; omega, by unfold PyData.depth; omega, by unfold PyData.hasDict; exact c⟩
theorem Small.mono {n n' k k' : Nat} {d : PyData} (h : Small n k d) (h1 : n ≤ n') (h2 : k ≤ k') : Small n' k' d := ⟨Nat.le_trans h.w h1, Nat.le_trans h.dp h2, h.nd⟩
theorem Small.nice {n k : Nat} {d : PyData} (h : Small n k d) (h1 : n ≤ 1000000) (h2 : k ≤ 20) : Nice d := ⟨Nat.le_trans h.w h1, Nat.le_trans h.dp h2, .inl h.nd⟩
end MF

end

section
namespace L2
open PySem PySem.Spec PyProof.Rows
section
variable {X : Cx}
end
end L2

end

section
namespace MF
open PySem PySem.Spec PyProof.Rows L2
theorem _root_.L2.walk_zip {P : Program} {w : World} {K : PySem.W.Frag} {S1 S2 : SeqK P w K} {a b : Addr} {xs ys : List V} {cap : List (Option Nat)} {g : TG} {tt : TT} {te : TE} {σ : L2.St} {Q : List V → Hp → Prop} {H : Hp} (Pv : Nat → List V → Hp → Prop) (hn : xs.length ≤ 100000) (he : xs.length = ys.length) (h0 : Pv 0 [] H) (hz : ∀ i zs H, Pv i zs H → zs.length ≤ i)
  (hl : ∀ i zs H, Pv i zs H → S1.Sq H a xs ∧ S2.Sq H b ys)
  (hs : ∀ i x y zs H T, xs[i]? = some x → ys[i]? = some y → Pv i zs H → H T = none → g (.ref T) (capOf cap σ) (upd H T (.tup [x, y])) fun σ2 H2 => Keep (capOf cap σ) σ2 ∧ tt σ2 H2 fun b H3 => br b (te σ2 H3 fun y H4 => Pv (i + 1) (zs ++ [y]) H4) (Pv (i + 1) zs H3))
  (hd : ∀ zs H, Pv xs.length zs H → Q zs H) : Walk (Itz S1 S2 a b) cap g tt te σ Q H :=
 walk_n xs.length Pv hn h0 hz (fun i zs H hi p => by
  obtain ⟨q1, q2⟩ := hl i zs H p
  have hy : i < ys.length := by omega
  refine ⟨⟨xs, ys, xs[i], ys[i], q1, q2, by simp [hi], by simp [hy]⟩, fun v H' ⟨T, e, n, y⟩ => ?_⟩
  subst e
  rw [y xs ys xs[i] ys[i] q1 q2 (by simp [hi]) (by simp [hy])]
  exact hs i xs[i] ys[i] zs H T (by simp [hi]) (by simp [hy]) p n)
  fun zs H p => ⟨⟨xs, ys, (hl _ zs H p).1, (hl _ zs H p).2, rfl⟩, hd zs H p⟩
def FD (F : List (List Int)) : PyData := .tuple (F.map rowD)
structure FOk (P : PL) (S : SY) (F : List (List Int)) : Prop where
 len : F.length = S.ex.length
 row : ∀ (i : Nat) (r : List Int), F[i]? = some r → r.length = P.bs.length
 bd : ∀ (i : Nat) (r : List Int) (j : Nat) (x c : Int), F[i]? = some r → r[j]? = some x → (capsIn P.bs S.fs i)[j]? = some c → 0 ≤ x ∧ x ≤ c
structure Tri (p : Addr) (H : Hp) (P : PL) (S : SY) (F : List (List Int)) (v u w : V) : Prop where
 ok : P.ok
 so : S.ok P.bs.length
 fo : FOk P S F
 r : Rep p H P.d v
 ru : Rep p H S.d u
 rw : Rep p H (FD F) w
def made (F : List (List Int)) (i : Nat) : Int := (F.getD i []).sum
def drawnAt (P : PL) (S : SY) (i : Nat) : Int := (draws P S).getD i 0
def blownOf (hi m : Int) : Int := if 0 > m - hi then 0 else m - hi
def mainAt (P : PL) (S : SY) (F : List (List Int)) : Nat → Int
 | 0 => P.st
 | i + 1 => mainAt P S F i + (made F i - drawnAt P S i) - blownOf P.hi (mainAt P S F i + (made F i - drawnAt P S i))
def pmAt (P : PL) (S : SY) (F : List (List Int)) (i : Nat) : Int := mainAt P S F i + (made F i - drawnAt P S i)
structure Run (P : PL) (S : SY) (F : List (List Int)) (k : Nat) (s : Option (Int × Int)) : Prop where
 le : k ≤ S.ex.length
 up : ∀ i, i < k → P.lo ≤ pmAt P S F i
 fin : (s = none ∧ k = S.ex.length) ∨ (k < S.ex.length ∧ pmAt P S F k < P.lo ∧ s = some ((k : Int), P.lo - pmAt P S F k))
end MF

end

section
namespace MF
open PySem PySem.Spec PyProof.Rows L2
end MF

end

section
namespace L2
open PySem PySem.Spec PyProof.Rows
section
variable {X : Cx}
end
end L2

end

section
namespace L2
open PySem PySem.Spec PyProof.Rows
section
variable {X : Cx}
def vsB (sc : Scope) (x : Str) : Bool := match sc.names.lookup x with | some .local => true | some .cell => true | some .free => true | _ => false
def lcB (sc : Scope) (x : Str) : Bool := match sc.names.lookup x with | some .local => true | some .cell => true | _ => false
def llB (sc : Scope) (x : Str) : Bool := match sc.names.lookup x with | some .local => true | _ => false
theorem vis_of {sc : Scope} {x : Str} (h : vsB sc x = true) : Vis sc x := by
 unfold vsB at h
 split at h
 ·exact .inl (by assumption)
 ·exact .inr (.inl (by assumption))
 ·exact .inr (.inr (by assumption))
 ·cases h
theorem loc_of {sc : Scope} {x : Str} (h : lcB sc x = true) : Loc sc x := by
 unfold lcB at h
 split at h
 ·exact .inl (by assumption)
 ·exact .inr (by assumption)
 ·cases h
theorem fl_of {f : Bool} {sc : Scope} {x : Str} (h : (f || llB sc x) = true) : f = true ∨ sc.names.lookup x = some .local := by
 rcases Bool.or_eq_true_iff.mp h with h | h
 ·exact .inl h
 ·unfold llB at h
  split at h
  ·exact .inr (by assumption)
  ·cases h
theorem cw (i : Nat) {x : Str} {pos : Pos} (hN : X.N[i]? = some x) (hv : vsB X.env.scope x = true) (hd : (x == ("__debug__" : Str) || x == ("__classdict__" : Str)) = false) : PE X (.Name x pos) (cVar i) :=
 cv i hN (vis_of hv) (Bool.or_eq_false_iff.mp hd).1 (Bool.or_eq_false_iff.mp hd).2
theorem pgw {x : Str} {pos : Pos} (i : Nat) (hN : X.N.Nodup) (hi : X.N[i]? = some x) (hx : lcB X.env.scope x = true) (hf : (X.fn x || llB X.env.scope x) = true) : PG X (.Name x pos) (gName i) := pg_name hN hi (loc_of hx) (fl_of hf)
def cwB (X : Cx) (i : Nat) (x : Str) : Bool := X.N[i]? == some x && (vsB X.env.scope x && !(x == ("__debug__" : Str) || x == ("__classdict__" : Str)))
theorem cx (i : Nat) {x : Str} {pos : Pos} (h : cwB X i x = true) : PE X (.Name x pos) (cVar i) := by
 obtain ⟨h1, h2⟩ := Bool.and_eq_true_iff.mp h
 obtain ⟨h2, h3⟩ := Bool.and_eq_true_iff.mp h2
 exact cw i (eq_of_beq h1) h2 (by simpa using h3)
def pgB (X : Cx) (i : Nat) (x : Str) : Bool := X.N[i]? == some x && (lcB X.env.scope x && (X.fn x || llB X.env.scope x))
theorem pgx {x : Str} {pos : Pos} (i : Nat) (hN : X.N.Nodup) (h : pgB X i x = true) : PG X (.Name x pos) (gName i) := by
 obtain ⟨h1, h2⟩ := Bool.and_eq_true_iff.mp h
 obtain ⟨h2, h3⟩ := Bool.and_eq_true_iff.mp h2
 exact pgw i hN (eq_of_beq h1) h2 h3
theorem nd_of {l : List Str} (h : decide l.Nodup = true) : l.Nodup := of_decide_eq_true h
def nS : Expr → Bool | .Starred _ _ => false | _ => true
theorem star_of {e : Expr} {es : List Expr} {env : Env} (h : nS e = true) : starEach (e :: es) env = (false, eval e env) :: starEach es env := by
 cases e <;> first | rfl | exact absurd h Bool.false_ne_true
section
variable {e1 e2 e3 e4 : Expr} {t1 t2 t3 t4 : TE}
theorem pa1 (h1 : PE X e1 t1) (hs : nS e1 = true) : PA X [e1] (tCons t1 tNil) := pa_cons h1 pa_nil (star_of hs)
theorem pa2 (h1 : PE X e1 t1) (h2 : PE X e2 t2) (hs : (nS e1 && nS e2) = true) : PA X [e1, e2] (tCons t1 (tCons t2 tNil)) := pa_cons h1 (pa1 h2 (Bool.and_eq_true_iff.mp hs).2) (star_of (Bool.and_eq_true_iff.mp hs).1)
theorem pa3 (h1 : PE X e1 t1) (h2 : PE X e2 t2) (h3 : PE X e3 t3) (hs : (nS e1 && (nS e2 && nS e3)) = true) : PA X [e1, e2, e3] (tCons t1 (tCons t2 (tCons t3 tNil))) := pa_cons h1 (pa2 h2 h3 (Bool.and_eq_true_iff.mp hs).2) (star_of (Bool.and_eq_true_iff.mp hs).1)
theorem pa4 (h1 : PE X e1 t1) (h2 : PE X e2 t2) (h3 : PE X e3 t3) (h4 : PE X e4 t4) (hs : (nS e1 && (nS e2 && (nS e3 && nS e4))) = true) : PA X [e1, e2, e3, e4] (tCons t1 (tCons t2 (tCons t3 (tCons t4 tNil)))) := pa_cons h1 (pa3 h2 h3 h4 (Bool.and_eq_true_iff.mp hs).2) (star_of (Bool.and_eq_true_iff.mp hs).1)
end
end
end L2

end

section
namespace L2
open PySem PySem.Spec PyProof.Rows
section
variable {X : Cx}
theorem cy (i : Nat) {x : Str} {pos : Pos} (h : cwB X i x = true := by rfl) : PE X (.Name x pos) (cVar i) := cx i h
theorem pgy {x : Str} {pos : Pos} (i : Nat) (hN : X.N.Nodup) (h : pgB X i x = true := by rfl) : PG X (.Name x pos) (gName i) := pgx i hN h
section
variable {e1 e2 e3 e4 : Expr} {t1 t2 t3 t4 : TE}
theorem pb1 (h1 : PE X e1 t1) (hs : nS e1 = true := by rfl) : PA X [e1] (tCons t1 tNil) := pa1 h1 hs
theorem pb2 (h1 : PE X e1 t1) (h2 : PE X e2 t2) (hs : (nS e1 && nS e2) = true := by rfl) : PA X [e1, e2] (tCons t1 (tCons t2 tNil)) := pa2 h1 h2 hs
theorem pb3 (h1 : PE X e1 t1) (h2 : PE X e2 t2) (h3 : PE X e3 t3) (hs : (nS e1 && (nS e2 && nS e3)) = true := by rfl) : PA X [e1, e2, e3] (tCons t1 (tCons t2 (tCons t3 tNil))) := pa3 h1 h2 h3 hs
theorem pb4 (h1 : PE X e1 t1) (h2 : PE X e2 t2) (h3 : PE X e3 t3) (h4 : PE X e4 t4) (hs : (nS e1 && (nS e2 && (nS e3 && nS e4))) = true := by rfl) : PA X [e1, e2, e3, e4] (tCons t1 (tCons t2 (tCons t3 (tCons t4 tNil)))) := pa4 h1 h2 h3 h4 hs
end
end
end L2

end

section
namespace MF
open PySem PySem.Spec PyProof.Rows L2
def top (i : Nat) : Stmt := PySem.Challenge.pw_mainfires_k01_plants_known.main.body.getD i (.Pass ⟨0, 0, 0, 0⟩)
abbrev s_is_whole : Stmt := top 1
abbrev s_is_whole_from : Stmt := top 2
abbrev s_is_tuple_of : Stmt := top 3
abbrev s_is_plant : Stmt := top 10
abbrev s_are_boilers : Stmt := top 11
abbrev s_is_make_and_coal : Stmt := top 12
abbrev s_are_engines : Stmt := top 13
abbrev s_is_engine : Stmt := top 14
abbrev s_is_main : Stmt := top 15
abbrev s__law_cell : Stmt := top 17
abbrev s__law_pen : Stmt := top 18
abbrev s__law_draw : Stmt := top 19
abbrev s__law_plant : Stmt := top 20
abbrev s__law_odd : Stmt := top 21
abbrev s__law_number : Stmt := top 22
abbrev s__law_row : Stmt := top 23
abbrev s__law_is_plant : Stmt := top 24
abbrev s__law_bent_row : Stmt := top 25
abbrev s__law_bent : Stmt := top 26
abbrev s_law : Stmt := top 27
structure Tx (mg : Str → Option Value) : Prop where
 b_all : mg "all" = none
 b_bool : mg "bool" = none
 b_divmod : mg "divmod" = none
 b_int : mg "int" = none
 b_isinstance : mg "isinstance" = none
 b_len : mg "len" = none
 b_list : mg "list" = none
 b_max : mg "max" = none
 b_min : mg "min" = none
 b_range : mg "range" = none
 b_repr : mg "repr" = none
 b_sorted : mg "sorted" = none
 b_tuple : mg "tuple" = none
 b_zip : mg "zip" = none
 g_MOST_BOILERS : ∃ t, mg "MOST_BOILERS" = some (.int 4 t)
 g_MOST_ENGINES : ∃ t, mg "MOST_ENGINES" = some (.int 4 t)
 g_MOST_HOURS : ∃ t, mg "MOST_HOURS" = some (.int 8 t)
 g_MOST_UNITS : ∃ t, mg "MOST_UNITS" = some (.int 9 t)
 g_MOST_IN_MAIN : ∃ t, mg "MOST_IN_MAIN" = some (.int 40 t)
def isWhole : PyData → Bool | .int _ => true | _ => false
def isWF (d : PyData) (lo hi : Int) : Bool := match d with | .int i => decide (lo ≤ i) && decide (i ≤ hi) | _ => false
def isTO (d : PyData) (lo hi : Int) : Bool := match d with | .tuple ds => decide (lo ≤ (ds.length : Int)) && decide ((ds.length : Int) ≤ hi) | _ => false
def sp_is_whole : Sp := fun vs H Q _ => match vs with | [v] => ∃ p d, Rep p H d v ∧ ∀ b, b = isWhole d → Q (.bl b) H | _ => False
def sp_is_whole_from : Sp := fun vs H Q _ => match vs with | [v, .int lo, .int hi] => ∃ p d, Rep p H d v ∧ ∀ b, b = isWF d lo hi → Q (.bl b) H | _ => False
def sp_is_tuple_of : Sp := fun vs H Q _ => match vs with | [v, .int lo, .int hi] => ∃ p d, Rep p H d v ∧ ∀ b, b = isTO d lo hi → Q (.bl b) H | _ => False
theorem len_is_whole_from {vs H Q E} (h : sp_is_whole_from vs H Q E) : vs.length = 3 := by unfold sp_is_whole_from at h; split at h; rfl; exact h.elim
section
variable {P : Program} {w : World} {K : PySem.W.Frag} {mg : Str → Option Value} {base : Heap}
theorem sc_is_whole : FnScope ["thing"] ["thing"] (defScope s_is_whole) := ⟨rfl, rfl, rfl, by decide +kernel, rfl, by decide +kernel, by decide +kernel⟩
theorem ok_is_whole (F : Df K mg "is_whole" s_is_whole ["thing"]) (T : Tx mg)  : Fn P w K mg base 1 "is_whole" ["thing"] sp_is_whole := by
 refine F.fn sc_is_whole (fun vs H Q E h => ?_) (fun f cdv A outer s H vs Q E hr h => ?_)
 ·unfold sp_is_whole at h; split at h; rfl; exact h.elim
 refine ⟨_, (pss_one (ps_ret (c_andV (pe_callB call_isi rfl T.b_isinstance boot_isinstance (pb2 (cy 0) (pe_bltn (v := .ty "int") rfl T.b_int L2.boot_int rfl))) (pe_one (c_notV (pe_callB call_isi rfl T.b_isinstance boot_isinstance (pb2 (cy 0) (pe_bltn (v := .ty "bool") rfl T.b_bool L2.boot_bool rfl)))))))), ?_⟩
 unfold sp_is_whole at h
 split at h
 ·rename_i v
  obtain ⟨p, d, r, q⟩ := h
  refine ⟨_, r.ty, .inl rfl, ⟨fun c => ⟨_, r.ty, .inr (.inl rfl), ?_⟩, fun c => ?_⟩⟩
  ·exact q _ (by cases d <;> first | rfl | cases c)
  ·exact q _ (by cases d <;> first | rfl | cases c)
 ·exact h.elim
theorem sc_is_whole_from : FnScope ["thing", "least", "most"] ["thing", "least", "most"] (defScope s_is_whole_from) := ⟨rfl, rfl, rfl, by decide +kernel, rfl, by decide +kernel, by decide +kernel⟩
theorem ok_is_whole_from (F : Df K mg "is_whole_from" s_is_whole_from ["thing", "least", "most"]) (T : Tx mg) (D_is_whole : Fn P w K mg base 1 "is_whole" ["thing"] sp_is_whole) : Fn P w K mg base 2 "is_whole_from" ["thing", "least", "most"] sp_is_whole_from := by
 refine F.fn sc_is_whole_from (fun vs H Q E h => ?_) (fun f cdv A outer s H vs Q E hr h => ?_)
 ·unfold sp_is_whole_from at h; split at h; rfl; exact h.elim
 refine ⟨_, (pss_one (ps_ret (c_andV (c_call D_is_whole (hr.mono (by decide)) rfl (pb1 (cy 0))) (pe_one (c_chain o_le o_le (cy 1) (cy 0) (cy 2)))))), ?_⟩
 unfold sp_is_whole_from at h
 split at h
 ·rename_i v lo hi
  obtain ⟨p, d, r, q⟩ := h
  refine ⟨p, d, r, fun b hb => ⟨fun c => ?_, fun c => ?_⟩⟩
  ·subst c
   cases d <;> first | cases hb | skip
   rename_i i
   unfold Rep at r
   subst r
   refine ⟨fun c => ?_, fun c => ?_⟩
   ·exact q _ (by unfold isWF; dsimp only; rw [c]; rfl)
   ·exact q _ (by unfold isWF; dsimp only; rw [c]; rfl)
  ·subst c
   exact q _ (by cases d <;> first | rfl | cases hb)
 ·exact h.elim
theorem sc_is_tuple_of : FnScope ["thing", "fewest", "most"] ["thing", "fewest", "most"] (defScope s_is_tuple_of) := ⟨rfl, rfl, rfl, by decide +kernel, rfl, by decide +kernel, by decide +kernel⟩
theorem ok_is_tuple_of (F : Df K mg "is_tuple_of" s_is_tuple_of ["thing", "fewest", "most"]) (T : Tx mg)  : Fn P w K mg base 1 "is_tuple_of" ["thing", "fewest", "most"] sp_is_tuple_of := by
 refine F.fn sc_is_tuple_of (fun vs H Q E h => ?_) (fun f cdv A outer s H vs Q E hr h => ?_)
 ·unfold sp_is_tuple_of at h; split at h; rfl; exact h.elim
 refine ⟨_, (pss_one (ps_ret (c_andV (pe_callB call_isi rfl T.b_isinstance boot_isinstance (pb2 (cy 0) (pe_bltn (v := .ty "tuple") rfl T.b_tuple boot_tuple' rfl))) (pe_one (c_chain o_le o_le (cy 1) (pe_callB (lenS K) rfl T.b_len PySem.boot_len (pb1 (cy 0))) (cy 2)))))), ?_⟩
 unfold sp_is_tuple_of at h
 split at h
 ·rename_i v lo hi
  obtain ⟨p, d, r, q⟩ := h
  refine ⟨_, r.ty, .inr (.inr (.inl rfl)), ⟨fun c => ?_, fun c => ?_⟩⟩
  ·cases d <;> first | cases c | skip
   rename_i ds
   unfold Rep at r
   obtain ⟨a, xs, rfl, ha, rs⟩ := r
   refine ⟨a, xs, rfl, .inr (SqT.of ha), ?_⟩
   rw [← rs.len]
   refine ⟨fun c => ?_, fun c => ?_⟩
   ·exact q _ (by unfold isTO; dsimp only; rw [c]; rfl)
   ·exact q _ (by unfold isTO; dsimp only; rw [c]; rfl)
  ·exact q _ (by cases d <;> first | rfl | cases c)
 ·exact h.elim
end
end MF

end

section
namespace MF
open PySem PySem.Spec PyProof.Rows L2
theorem take_map {α β : Type} {ds : List α} {i : Nat} {d : α} (f : α → β) (h : ds[i]? = some d) : (ds.take (i + 1)).map f = (ds.take i).map f ++ [f d] := by
 rw [List.take_add_one, h, List.map_append]; rfl
def isMC (d : PyData) : Bool := match d with | .tuple [a, b] => isWF a 1 9 && isWF b 1 9 | _ => false
def isEng (d : PyData) : Bool := match d with | .tuple [a, b, c] => isWF a 1 9 && isWF b 0 7 && isWF c 1 8 | _ => false
def isMain (d : PyData) : Bool := match d with
 | .tuple [a, b, c] => isWF b 0 40 && match b with | .int hi => isWF c 0 hi && (match c with | .int st => isWF a 0 st | _ => false) | _ => false
 | _ => false
def isBoilers (d : PyData) : Bool := match d with | .tuple ds => isTO d 1 4 && ds.all isMC | _ => false
def isEngines (d : PyData) : Bool := match d with | .tuple ds => isTO d 0 4 && ds.all isEng | _ => false
def isPlant (d : PyData) : Bool := match d with | .tuple [a, b, c] => isBoilers a && isEngines b && isMain c | _ => false
def spLook (f : PyData → Bool) : Sp := fun vs H Q _ => match vs with | [v] => ∃ p d, Rep p H d v ∧ ∀ b H', b = f d → Same H H' → Q (.bl b) H' | _ => False
theorem spLook_len {f : PyData → Bool} {vs H Q E} (h : spLook f vs H Q E) : vs.length = 1 := by unfold spLook at h; split at h; rfl; exact h.elim
abbrev sp_is_make_and_coal : Sp := spLook isMC
abbrev sp_is_engine : Sp := spLook isEng
abbrev sp_is_main : Sp := spLook isMain
abbrev sp_are_boilers : Sp := spLook isBoilers
abbrev sp_are_engines : Sp := spLook isEngines
abbrev sp_is_plant : Sp := spLook isPlant
theorem len_is_make_and_coal {vs H Q E} (h : sp_is_make_and_coal vs H Q E) : vs.length = 1 := spLook_len h
theorem len_is_engine {vs H Q E} (h : sp_is_engine vs H Q E) : vs.length = 1 := spLook_len h
theorem len_is_main {vs H Q E} (h : sp_is_main vs H Q E) : vs.length = 1 := spLook_len h
theorem len_are_boilers {vs H Q E} (h : sp_are_boilers vs H Q E) : vs.length = 1 := spLook_len h
theorem len_are_engines {vs H Q E} (h : sp_are_engines vs H Q E) : vs.length = 1 := spLook_len h
theorem len_is_plant {vs H Q E} (h : sp_is_plant vs H Q E) : vs.length = 1 := spLook_len h
theorem two {ds : List PyData} (h : isTO (.tuple ds) 2 2 = true) : ∃ a b, ds = [a, b] := by
 unfold isTO at h; simp only [Bool.and_eq_true, decide_eq_true_eq] at h
 match ds, h with
 | [a, b], _ => exact ⟨a, b, rfl⟩
 | [], h => simp at h
 | [_], h => simp at h
 | _ :: _ :: _ :: _, h => simp at h; omega
theorem three {ds : List PyData} (h : isTO (.tuple ds) 3 3 = true) : ∃ a b c, ds = [a, b, c] := by
 unfold isTO at h; simp only [Bool.and_eq_true, decide_eq_true_eq] at h
 match ds, h with
 | [a, b, c], _ => exact ⟨a, b, c, rfl⟩
 | [], h => simp at h
 | [_], h => simp at h
 | [_, _], h => simp at h
 | _ :: _ :: _ :: _ :: _, h => simp at h; omega
theorem isTO_tup {d : PyData} {lo hi : Int} (h : isTO d lo hi = true) : ∃ ds, d = .tuple ds := by
 cases d <;> first | exact ⟨_, rfl⟩ | cases h
theorem Rep.shape {p : Addr} {H : Hp} {ds : List PyData} {v : V} (r : Rep p H (.tuple ds) v) : ∃ a xs, v = .ref a ∧ H a = some (.tup xs) ∧ Reps p H ds xs := by unfold Rep at r; exact r
theorem Reps.two {p : Addr} {H : Hp} {a b : PyData} {xs : List V} (r : Reps p H [a, b] xs) : ∃ x y, xs = [x, y] ∧ Rep p H a x ∧ Rep p H b y := by
 unfold Reps at r; obtain ⟨x, s, rfl, hx, r⟩ := r; unfold Reps at r; obtain ⟨y, s, rfl, hy, r⟩ := r; unfold Reps at r; subst r; exact ⟨x, y, rfl, hx, hy⟩
theorem Reps.three {p : Addr} {H : Hp} {a b c : PyData} {xs : List V} (r : Reps p H [a, b, c] xs) : ∃ x y z, xs = [x, y, z] ∧ Rep p H a x ∧ Rep p H b y ∧ Rep p H c z := by
 unfold Reps at r; obtain ⟨x, s, rfl, hx, r⟩ := r; obtain ⟨y, z, rfl, hy, hz⟩ := Reps.two r; exact ⟨x, y, z, rfl, hx, hy, hz⟩
section
variable {P : Program} {w : World} {K : PySem.W.Frag} {mg : Str → Option Value} {base : Heap}
theorem sc_is_make_and_coal : FnScope ["thing", "make", "coal"] ["thing"] (defScope s_is_make_and_coal) := ⟨rfl, rfl, rfl, by decide +kernel, rfl, by decide +kernel, by decide +kernel⟩
theorem ok_is_make_and_coal (F : Df K mg "is_make_and_coal" s_is_make_and_coal ["thing"]) (T : Tx mg) (D_is_tuple_of : Fn P w K mg base 1 "is_tuple_of" ["thing", "fewest", "most"] sp_is_tuple_of) (D_is_whole_from : Fn P w K mg base 2 "is_whole_from" ["thing", "least", "most"] sp_is_whole_from) : Fn P w K mg base 3 "is_make_and_coal" ["thing"] sp_is_make_and_coal := by
 obtain ⟨t_MOST_UNITS, g_MOST_UNITS⟩ := T.g_MOST_UNITS
 refine F.fn sc_is_make_and_coal (fun vs H Q E h => ?_) (fun f cdv A outer s H vs Q E hr h => ?_)
 ·exact len_is_make_and_coal h
 refine ⟨_, (pss_cons (c_if (pt_not (c_val (c_call D_is_tuple_of (hr.mono (by decide)) rfl (pb3 (cy 0) pe_int pe_int)))) (pss_one (ps_ret pe_bl)) pss_nil) (pss_cons (ps_asg (cy 0) (pgT K (n := 2) (pgs_cons (pgy 1 sc_is_make_and_coal.nd) (pgs_cons (pgy 2 sc_is_make_and_coal.nd) pgs_nil)))) (pss_one (ps_ret (c_andV (c_call D_is_whole_from (hr.mono (by decide)) rfl (pb3 (cy 1) pe_int (pe_glob (v := .int 9) rfl g_MOST_UNITS ⟨t_MOST_UNITS, rfl⟩))) (pe_one (c_call D_is_whole_from (hr.mono (by decide)) rfl (pb3 (cy 2) pe_int (pe_glob (v := .int 9) rfl g_MOST_UNITS ⟨t_MOST_UNITS, rfl⟩))))))))), ?_⟩
 unfold sp_is_make_and_coal spLook at h
 split at h
 ·rename_i v
  obtain ⟨p, d, r, q⟩ := h
  refine ⟨p, d, r, fun b hb => ⟨fun c => ?_, fun c => ?_⟩⟩
  ·refine q false H ?_ (Same.refl _)
   have e : isTO d 2 2 = false := by rw [← hb]; simpa using c
   cases d <;> first | rfl | skip
   rename_i ds
   match ds, e with
   | [a, b], e => cases e
   | [], _ => rfl
   | [_], _ => rfl
   | _ :: _ :: _ :: _, _ => rfl
  ·have e : isTO d 2 2 = true := by rw [← hb]; simpa using c
   obtain ⟨ds, rfl⟩ := isTO_tup e
   obtain ⟨a, b, rfl⟩ := two e
   obtain ⟨l, xs, rfl, hl, rs⟩ := Rep.shape r
   obtain ⟨x, y, rfl, rx, ry⟩ := Reps.two rs
   refine ⟨l, [x, y], rfl, SqT.of hl, rfl, x, [y], rfl, y, [], rfl, rfl, p, a, rx, fun b1 e1 => ⟨fun c => ⟨p, b, ry, fun b2 e2 => ?_⟩, fun c => ?_⟩⟩
   ·exact q _ _ (by unfold isMC; dsimp only; rw [e2, ← e1, c]; rfl) (Same.refl _)
   ·exact q _ _ (by unfold isMC; dsimp only; rw [← e1, c]; rfl) (Same.refl _)
 ·exact h.elim
theorem sc_is_engine : FnScope ["thing", "draw", "first", "every"] ["thing"] (defScope s_is_engine) := ⟨rfl, rfl, rfl, by decide +kernel, rfl, by decide +kernel, by decide +kernel⟩
theorem ok_is_engine (F : Df K mg "is_engine" s_is_engine ["thing"]) (T : Tx mg) (D_is_tuple_of : Fn P w K mg base 1 "is_tuple_of" ["thing", "fewest", "most"] sp_is_tuple_of) (D_is_whole_from : Fn P w K mg base 2 "is_whole_from" ["thing", "least", "most"] sp_is_whole_from) : Fn P w K mg base 3 "is_engine" ["thing"] sp_is_engine := by
 obtain ⟨t_MOST_HOURS, g_MOST_HOURS⟩ := T.g_MOST_HOURS
 obtain ⟨t_MOST_UNITS, g_MOST_UNITS⟩ := T.g_MOST_UNITS
 refine F.fn sc_is_engine (fun vs H Q E h => ?_) (fun f cdv A outer s H vs Q E hr h => ?_)
 ·exact len_is_engine h
 refine ⟨_, (pss_cons (c_if (pt_not (c_val (c_call D_is_tuple_of (hr.mono (by decide)) rfl (pb3 (cy 0) pe_int pe_int)))) (pss_one (ps_ret pe_bl)) pss_nil) (pss_cons (ps_asg (cy 0) (pgT K (n := 3) (pgs_cons (pgy 1 sc_is_engine.nd) (pgs_cons (pgy 2 sc_is_engine.nd) (pgs_cons (pgy 3 sc_is_engine.nd) pgs_nil))))) (pss_one (ps_ret (c_andV (c_call D_is_whole_from (hr.mono (by decide)) rfl (pb3 (cy 1) pe_int (pe_glob (v := .int 9) rfl g_MOST_UNITS ⟨t_MOST_UNITS, rfl⟩))) (c_andV (c_call D_is_whole_from (hr.mono (by decide)) rfl (pb3 (cy 2) pe_int (pe_op o_sub (pe_glob (v := .int 8) rfl g_MOST_HOURS ⟨t_MOST_HOURS, rfl⟩) pe_int))) (pe_one (c_call D_is_whole_from (hr.mono (by decide)) rfl (pb3 (cy 3) pe_int (pe_glob (v := .int 8) rfl g_MOST_HOURS ⟨t_MOST_HOURS, rfl⟩)))))))))), ?_⟩
 unfold sp_is_engine spLook at h
 split at h
 ·rename_i v
  obtain ⟨p, d, r, q⟩ := h
  refine ⟨p, d, r, fun b hb => ⟨fun c => ?_, fun c => ?_⟩⟩
  ·refine q false H ?_ (Same.refl _)
   have e : isTO d 3 3 = false := by rw [← hb]; simpa using c
   cases d <;> first | rfl | skip
   rename_i ds
   match ds, e with
   | [a, b, c], e => cases e
   | [], _ => rfl
   | [_], _ => rfl
   | [_, _], _ => rfl
   | _ :: _ :: _ :: _ :: _, _ => rfl
  ·have e : isTO d 3 3 = true := by rw [← hb]; simpa using c
   obtain ⟨ds, rfl⟩ := isTO_tup e
   obtain ⟨a, b, c', rfl⟩ := three e
   obtain ⟨l, xs, rfl, hl, rs⟩ := Rep.shape r
   obtain ⟨x, y, z, rfl, rx, ry, rz⟩ := Reps.three rs
   refine ⟨l, [x, y, z], rfl, SqT.of hl, rfl, x, [y, z], rfl, y, [z], rfl, z, [], rfl, rfl, p, a, rx, fun b1 e1 => ⟨fun c => ⟨p, b, ry, fun b2 e2 => ⟨fun c2 => ⟨p, c', rz, fun b3 e3 => ?_⟩, fun c2 => ?_⟩⟩, fun c => ?_⟩⟩
   ·exact q _ _ (by unfold isEng; dsimp only; rw [e3, ← e1, c]; rw [show isWF b 0 7 = true from by rw [← c2, e2]; rfl]; rfl) (Same.refl _)
   ·exact q _ _ (by unfold isEng; dsimp only; rw [← e1, c]; rw [show isWF b 0 7 = false from by rw [← c2, e2]; rfl]; rfl) (Same.refl _)
   ·exact q _ _ (by unfold isEng; dsimp only; rw [← e1, c]; rfl) (Same.refl _)
 ·exact h.elim
theorem sc_is_main : FnScope ["thing", "low", "high", "start"] ["thing"] (defScope s_is_main) := ⟨rfl, rfl, rfl, by decide +kernel, rfl, by decide +kernel, by decide +kernel⟩
theorem ok_is_main (F : Df K mg "is_main" s_is_main ["thing"]) (T : Tx mg) (D_is_tuple_of : Fn P w K mg base 1 "is_tuple_of" ["thing", "fewest", "most"] sp_is_tuple_of) (D_is_whole_from : Fn P w K mg base 2 "is_whole_from" ["thing", "least", "most"] sp_is_whole_from) : Fn P w K mg base 3 "is_main" ["thing"] sp_is_main := by
 obtain ⟨t_MOST_IN_MAIN, g_MOST_IN_MAIN⟩ := T.g_MOST_IN_MAIN
 refine F.fn sc_is_main (fun vs H Q E h => ?_) (fun f cdv A outer s H vs Q E hr h => ?_)
 ·exact len_is_main h
 refine ⟨_, (pss_cons (c_if (pt_not (c_val (c_call D_is_tuple_of (hr.mono (by decide)) rfl (pb3 (cy 0) pe_int pe_int)))) (pss_one (ps_ret pe_bl)) pss_nil) (pss_cons (ps_asg (cy 0) (pgT K (n := 3) (pgs_cons (pgy 1 sc_is_main.nd) (pgs_cons (pgy 2 sc_is_main.nd) (pgs_cons (pgy 3 sc_is_main.nd) pgs_nil))))) (pss_one (ps_ret (c_andV (c_call D_is_whole_from (hr.mono (by decide)) rfl (pb3 (cy 2) pe_int (pe_glob (v := .int 40) rfl g_MOST_IN_MAIN ⟨t_MOST_IN_MAIN, rfl⟩))) (c_andV (c_call D_is_whole_from (hr.mono (by decide)) rfl (pb3 (cy 3) pe_int (cy 2))) (pe_one (c_call D_is_whole_from (hr.mono (by decide)) rfl (pb3 (cy 1) pe_int (cy 3)))))))))), ?_⟩
 unfold sp_is_main spLook at h
 split at h
 ·rename_i v
  obtain ⟨p, d, r, q⟩ := h
  refine ⟨p, d, r, fun b hb => ⟨fun c => ?_, fun c => ?_⟩⟩
  ·refine q false H ?_ (Same.refl _)
   have e : isTO d 3 3 = false := by rw [← hb]; simpa using c
   cases d <;> first | rfl | skip
   rename_i ds
   match ds, e with
   | [a, b, c], e => cases e
   | [], _ => rfl
   | [_], _ => rfl
   | [_, _], _ => rfl
   | _ :: _ :: _ :: _ :: _, _ => rfl
  ·have e : isTO d 3 3 = true := by rw [← hb]; simpa using c
   obtain ⟨ds, rfl⟩ := isTO_tup e
   obtain ⟨a, b, c', rfl⟩ := three e
   obtain ⟨l, xs, rfl, hl, rs⟩ := Rep.shape r
   obtain ⟨x, y, z, rfl, rx, ry, rz⟩ := Reps.three rs
   refine ⟨l, [x, y, z], rfl, SqT.of hl, rfl, x, [y, z], rfl, y, [z], rfl, z, [], rfl, rfl, p, b, ry, fun b1 e1 => ⟨fun c1 => ?_, fun c1 => ?_⟩⟩
   ·rw [c1] at e1
    cases b <;> first | cases e1 | skip
    rename_i hi
    unfold Rep at ry
    subst ry
    refine ⟨p, c', rz, fun b2 e2 => ⟨fun c2 => ?_, fun c2 => ?_⟩⟩
    ·rw [c2] at e2
     cases c' <;> first | cases e2 | skip
     rename_i st
     unfold Rep at rz
     subst rz
     refine ⟨p, a, rx, fun b3 e3 => ?_⟩
     exact q _ _ (by unfold isMain; dsimp only; rw [e3]; rw [← e1, ← e2]; rfl) (Same.refl _)
    ·exact q _ _ (by unfold isMain; dsimp only; rw [← e1, ← e2, c2]; rfl) (Same.refl _)
   ·exact q _ _ (by unfold isMain; dsimp only; rw [← e1, c1]; rfl) (Same.refl _)
 ·exact h.elim
theorem sc_are_boilers : FnScope ["thing"] ["thing"] (defScope s_are_boilers) := ⟨rfl, rfl, rfl, by decide +kernel, rfl, by decide +kernel, by decide +kernel⟩
theorem ok_are_boilers (F : Df K mg "are_boilers" s_are_boilers ["thing"]) (T : Tx mg) (D_is_make_and_coal : Fn P w K mg base 3 "is_make_and_coal" ["thing"] sp_is_make_and_coal) (D_is_tuple_of : Fn P w K mg base 1 "is_tuple_of" ["thing", "fewest", "most"] sp_is_tuple_of) : Fn P w K mg base 4 "are_boilers" ["thing"] sp_are_boilers := by
 obtain ⟨t_MOST_BOILERS, g_MOST_BOILERS⟩ := T.g_MOST_BOILERS
 refine F.fn sc_are_boilers (fun vs H Q E h => ?_) (fun f cdv A outer s H vs Q E hr h => ?_)
 ·exact len_are_boilers h
 refine ⟨_, (pss_one (ps_ret (c_andV (c_call D_is_tuple_of (hr.mono (by decide)) rfl (pb3 (cy 0) pe_int (pe_glob (v := .int 4) rfl g_MOST_BOILERS ⟨t_MOST_BOILERS, rfl⟩))) (pe_one (pe_callB (call_all rfl) rfl T.b_all boot_all (pb1 (pe_comp ["part"] [none] rfl (piT K (cy 0)) (BlockScope.of rfl) (fun _ _ _ _ => (pgy 0 (nd_of (by rfl)))) (fun _ _ _ _ => pts_nil) (fun _ _ _ _ => (c_call D_is_make_and_coal (hr.mono (by decide)) rfl (pb1 (cy 0))))))))))), ?_⟩
 unfold sp_are_boilers spLook at h
 split at h
 ·rename_i v
  obtain ⟨p, d, r, q⟩ := h
  refine ⟨p, d, r, fun b hb => ⟨fun c => ?_, fun c => ?_⟩⟩
  ·rw [c] at hb
   obtain ⟨ds, rfl⟩ := isTO_tup hb.symm
   obtain ⟨l, xs, rfl, hl, rs⟩ := Rep.shape r
   have hlen := rs.len
   have hsm : ds.length ≤ 4 := by
    have := hb.symm; unfold isTO at this; simp only [Bool.and_eq_true, decide_eq_true_eq] at this; omega
   refine ⟨l, rfl, ⟨xs, SqT.of hl⟩, walk_tup (xs := xs) (fun i ys H' => Same H H' ∧ ys = (ds.take i).map fun d => V.bl (isMC d)) (by omega) ⟨Same.refl _, rfl⟩ (fun i ys H' h => by rw [h.2, List.length_map, List.length_take]; omega) (fun i ys H' _ h => SqT.of (h.1 _ _ hl)) (fun i x ys H' hx h => ?_) fun ys H' h => ?_⟩
   ·obtain ⟨d, hd, rd⟩ := rs.got hx
    refine ⟨trivial, fun _ => ⟨p, d, Rep.ev (Ev.same h.1) d x rd, fun b H2 e s2 => ⟨h.1.trans s2, ?_⟩⟩, fun c => by cases c⟩
    rw [h.2, e, take_map _ hd]
   ·intro m hm
    refine ⟨m, ds.map isMC, rfl, ?_, ?_⟩
    ·rw [upd_same, h.2, ← hlen, List.take_length, List.map_map]; rfl
    ·refine q _ _ ?_ (h.1.trans (Same.new hm))
     unfold isBoilers; dsimp only; rw [← hb, List.all_map, Bool.true_and]; rfl
  ·refine q _ _ ?_ (Same.refl _)
   have e : isTO d 1 4 = false := by rw [← hb, c]
   unfold isBoilers
   cases d <;> first | rfl | skip
   dsimp only; rw [e]; rfl
 ·exact h.elim
theorem sc_are_engines : FnScope ["thing"] ["thing"] (defScope s_are_engines) := ⟨rfl, rfl, rfl, by decide +kernel, rfl, by decide +kernel, by decide +kernel⟩
theorem ok_are_engines (F : Df K mg "are_engines" s_are_engines ["thing"]) (T : Tx mg) (D_is_engine : Fn P w K mg base 3 "is_engine" ["thing"] sp_is_engine) (D_is_tuple_of : Fn P w K mg base 1 "is_tuple_of" ["thing", "fewest", "most"] sp_is_tuple_of) : Fn P w K mg base 4 "are_engines" ["thing"] sp_are_engines := by
 obtain ⟨t_MOST_ENGINES, g_MOST_ENGINES⟩ := T.g_MOST_ENGINES
 refine F.fn sc_are_engines (fun vs H Q E h => ?_) (fun f cdv A outer s H vs Q E hr h => ?_)
 ·exact len_are_engines h
 refine ⟨_, (pss_one (ps_ret (c_andV (c_call D_is_tuple_of (hr.mono (by decide)) rfl (pb3 (cy 0) pe_int (pe_glob (v := .int 4) rfl g_MOST_ENGINES ⟨t_MOST_ENGINES, rfl⟩))) (pe_one (pe_callB (call_all rfl) rfl T.b_all boot_all (pb1 (pe_comp ["part"] [none] rfl (piT K (cy 0)) (BlockScope.of rfl) (fun _ _ _ _ => (pgy 0 (nd_of (by rfl)))) (fun _ _ _ _ => pts_nil) (fun _ _ _ _ => (c_call D_is_engine (hr.mono (by decide)) rfl (pb1 (cy 0))))))))))), ?_⟩
 unfold sp_are_engines spLook at h
 split at h
 ·rename_i v
  obtain ⟨p, d, r, q⟩ := h
  refine ⟨p, d, r, fun b hb => ⟨fun c => ?_, fun c => ?_⟩⟩
  ·rw [c] at hb
   obtain ⟨ds, rfl⟩ := isTO_tup hb.symm
   obtain ⟨l, xs, rfl, hl, rs⟩ := Rep.shape r
   have hlen := rs.len
   have hsm : ds.length ≤ 4 := by
    have := hb.symm; unfold isTO at this; simp only [Bool.and_eq_true, decide_eq_true_eq] at this; omega
   refine ⟨l, rfl, ⟨xs, SqT.of hl⟩, walk_tup (xs := xs) (fun i ys H' => Same H H' ∧ ys = (ds.take i).map fun d => V.bl (isEng d)) (by omega) ⟨Same.refl _, rfl⟩ (fun i ys H' h => by rw [h.2, List.length_map, List.length_take]; omega) (fun i ys H' _ h => SqT.of (h.1 _ _ hl)) (fun i x ys H' hx h => ?_) fun ys H' h => ?_⟩
   ·obtain ⟨d, hd, rd⟩ := rs.got hx
    refine ⟨trivial, fun _ => ⟨p, d, Rep.ev (Ev.same h.1) d x rd, fun b H2 e s2 => ⟨h.1.trans s2, ?_⟩⟩, fun c => by cases c⟩
    rw [h.2, e, take_map _ hd]
   ·intro m hm
    refine ⟨m, ds.map isEng, rfl, ?_, ?_⟩
    ·rw [upd_same, h.2, ← hlen, List.take_length, List.map_map]; rfl
    ·refine q _ _ ?_ (h.1.trans (Same.new hm))
     unfold isEngines; dsimp only; rw [← hb, List.all_map, Bool.true_and]; rfl
  ·refine q _ _ ?_ (Same.refl _)
   have e : isTO d 0 4 = false := by rw [← hb, c]
   unfold isEngines
   cases d <;> first | rfl | skip
   dsimp only; rw [e]; rfl
 ·exact h.elim
theorem sc_is_plant : FnScope ["thing", "boilers", "engines", "main"] ["thing"] (defScope s_is_plant) := ⟨rfl, rfl, rfl, by decide +kernel, rfl, by decide +kernel, by decide +kernel⟩
theorem ok_is_plant (F : Df K mg "is_plant" s_is_plant ["thing"]) (T : Tx mg) (D_are_boilers : Fn P w K mg base 4 "are_boilers" ["thing"] sp_are_boilers) (D_are_engines : Fn P w K mg base 4 "are_engines" ["thing"] sp_are_engines) (D_is_main : Fn P w K mg base 3 "is_main" ["thing"] sp_is_main) (D_is_tuple_of : Fn P w K mg base 1 "is_tuple_of" ["thing", "fewest", "most"] sp_is_tuple_of) : Fn P w K mg base 5 "is_plant" ["thing"] sp_is_plant := by
 refine F.fn sc_is_plant (fun vs H Q E h => ?_) (fun f cdv A outer s H vs Q E hr h => ?_)
 ·exact len_is_plant h
 refine ⟨_, (pss_cons (c_if (pt_not (c_val (c_call D_is_tuple_of (hr.mono (by decide)) rfl (pb3 (cy 0) pe_int pe_int)))) (pss_one (ps_ret pe_bl)) pss_nil) (pss_cons (ps_asg (cy 0) (pgT K (n := 3) (pgs_cons (pgy 1 sc_is_plant.nd) (pgs_cons (pgy 2 sc_is_plant.nd) (pgs_cons (pgy 3 sc_is_plant.nd) pgs_nil))))) (pss_one (ps_ret (c_andV (c_call D_are_boilers (hr.mono (by decide)) rfl (pb1 (cy 1))) (c_andV (c_call D_are_engines (hr.mono (by decide)) rfl (pb1 (cy 2))) (pe_one (c_call D_is_main (hr.mono (by decide)) rfl (pb1 (cy 3)))))))))), ?_⟩
 unfold sp_is_plant spLook at h
 split at h
 ·rename_i v
  obtain ⟨p, d, r, q⟩ := h
  refine ⟨p, d, r, fun b hb => ⟨fun c => ?_, fun c => ?_⟩⟩
  ·refine q false H ?_ (Same.refl _)
   have e : isTO d 3 3 = false := by rw [← hb]; simpa using c
   cases d <;> first | rfl | skip
   rename_i ds
   match ds, e with
   | [a, b, c], e => cases e
   | [], _ => rfl
   | [_], _ => rfl
   | [_, _], _ => rfl
   | _ :: _ :: _ :: _ :: _, _ => rfl
  ·have e : isTO d 3 3 = true := by rw [← hb]; simpa using c
   obtain ⟨ds, rfl⟩ := isTO_tup e
   obtain ⟨a, b, c', rfl⟩ := three e
   obtain ⟨l, xs, rfl, hl, rs⟩ := Rep.shape r
   obtain ⟨x, y, z, rfl, rx, ry, rz⟩ := Reps.three rs
   refine ⟨l, [x, y, z], rfl, SqT.of hl, rfl, x, [y, z], rfl, y, [z], rfl, z, [], rfl, rfl, p, a, rx, fun b1 H1 e1 s1 => ⟨fun c => ⟨p, b, Rep.ev (Ev.same s1) _ _ ry, fun b2 H2 e2 s2 => ⟨fun c2 => ⟨p, c', Rep.ev (Ev.same (s1.trans s2)) _ _ rz, fun b3 H3 e3 s3 => ?_⟩, fun c2 => ?_⟩⟩, fun c => ?_⟩⟩
   ·exact q _ _ (by unfold isPlant; dsimp only; rw [e3, ← e1, ← e2, c, c2]; rfl) (s1.trans (s2.trans s3))
   ·exact q _ _ (by unfold isPlant; dsimp only; rw [← e1, ← e2, c, c2]; rfl) (s1.trans s2)
   ·exact q _ _ (by unfold isPlant; dsimp only; rw [← e1, c]; rfl) s1
 ·exact h.elim
end
end MF

end

section
namespace MF
open PySem PySem.Spec PyProof.Rows L2
def Pen (p : Addr) (H : Hp) : Prop := ∃ l f : Int, H p = some (.lst [.int l, .int f])
theorem Pen.new {p a : Addr} {H : Hp} {o : HO} (h : Pen p H) (n : H a = none) : Pen p (upd H a o) := by
 obtain ⟨l, f, e⟩ := h; exact ⟨l, f, by rw [upd_ne (ne_of_none e n)]; exact e⟩
theorem Pen.ne {p a : Addr} {H : Hp} (h : Pen p H) (n : H a = none) : a ≠ p := by obtain ⟨l, f, e⟩ := h; exact Ne.symm (ne_of_none e n)
theorem Pen.same {p : Addr} {H H' : Hp} (h : Pen p H) (s : Same H H') : Pen p H' := by obtain ⟨l, f, e⟩ := h; exact ⟨l, f, s _ _ e⟩
def sp__law_cell (K : PySem.W.Frag) : Sp := fun vs H Q _ => match vs with | [.ref a, .int k] => ∃ ns : List Int, SqL K H a (ns.map V.int) ∧ 0 ≤ k ∧ ∀ i, Q (.int i) H | _ => False
def sp__law_pen : Sp := fun vs H Q _ => match vs with | [.int c] => ∀ p l f, H p = none → Q (.ref p) (upd H p (.lst [.int l, .int f])) | _ => False
def sp__law_draw : Sp := fun vs H Q _ => match vs with | [.ref p, .int m] => Pen p H ∧ 0 < m ∧ m < 1000 ∧ ∀ g H', 0 ≤ g → g < m → Ev p H H' → Pen p H' → Q (.int g) H' | _ => False
theorem pick {ns : List Int} {g : Int} (h0 : 0 ≤ g) (h1 : g < ns.length) : ∃ v ∈ ns, atI (ns.map V.int) g = some (.int v) := by
 have hk : g.toNat < ns.length := by omega
 have e : g = ((g.toNat : Nat) : Int) := by omega
 refine ⟨ns[g.toNat], List.getElem_mem hk, ?_⟩
 have q : atI (ns.map V.int) ((g.toNat : Nat) : Int) = some (.int ns[g.toNat]) := atI_nat (by simp [hk])
 rw [← e] at q
 exact q
section
variable {P : Program} {w : World} {K : PySem.W.Frag} {mg : Str → Option Value} {base : Heap}
theorem sc__law_cell : FnScope ["_law_script", "_law_k"] ["_law_script", "_law_k"] (defScope s__law_cell) := ⟨rfl, rfl, rfl, by decide +kernel, rfl, by decide +kernel, by decide +kernel⟩
theorem ok__law_cell (F : Df K mg "_law_cell" s__law_cell ["_law_script", "_law_k"]) (T : Tx mg)  : Fn P w K mg base 1 "_law_cell" ["_law_script", "_law_k"] (sp__law_cell K) := by
 refine F.fn sc__law_cell (fun vs H Q E h => ?_) (fun f cdv A outer s H vs Q E hr h => ?_)
 ·unfold sp__law_cell at h; split at h; rfl; exact h.elim
 refine ⟨_, (pss_cons (c_if (c_cmpT o_lt (cy 1) (pe_callB (lenS K) rfl T.b_len PySem.boot_len (pb1 (cy 0))) (nomark _)) (pss_one (ps_ret (pe_ix (ixL K) (cy 0) (cy 1) (fun _ _ => rfl)))) pss_nil) (pss_one (ps_ret pe_int))), ?_⟩
 unfold sp__law_cell at h
 split at h
 ·rename_i a k
  obtain ⟨ns, hs, h0, q⟩ := h
  refine ⟨a, _, rfl, .inl hs, ⟨fun c => ?_, fun c => q 0⟩⟩
  have c' : k < (ns.length : Int) := by have := of_decide_eq_true c; simpa using this
  obtain ⟨v, _, e⟩ := pick h0 c'
  exact ⟨a, _, k, .int v, rfl, rfl, hs, e, q v⟩
 ·exact h.elim
theorem sc__law_pen : FnScope ["_law_cell_here", "_law_left"] ["_law_cell_here"] (defScope s__law_pen) := ⟨rfl, rfl, rfl, by decide +kernel, rfl, by decide +kernel, by decide +kernel⟩
theorem ok__law_pen (F : Df K mg "_law_pen" s__law_pen ["_law_cell_here"]) (T : Tx mg)  : Fn P w K mg base 1 "_law_pen" ["_law_cell_here"] sp__law_pen := by
 refine F.fn sc__law_pen (fun vs H Q E h => ?_) (fun f cdv A outer s H vs Q E hr h => ?_)
 ·unfold sp__law_pen at h; split at h; rfl; exact h.elim
 refine ⟨_, (pss_cons (ps_set (i := 1) sc__law_pen.nd rfl (loc_of (by rfl)) (pe_callB (call_max2 rfl) rfl T.b_max boot_max (pb2 (cy 0) (pe_op o_sub pe_int (cy 0))))) (pss_one (ps_ret (c_lst (pb2 (cy 1) (pe_callTy call_int1 rfl T.b_int L2.boot_int (pb1 (pe_cmpR o_ge (cy 1) (pe_op o_pow pe_int pe_int) (nomark _))))))))), ?_⟩
 unfold sp__law_pen at h
 split at h
 ·rename_i c
  refine ⟨c, 0 - c, rfl, ?_⟩
  exact ⟨⟨by decide, by decide, by decide⟩, .inr ⟨_, rfl, fun p hp => h p _ _ hp⟩⟩
 ·exact h.elim
theorem sc__law_draw : FnScope ["_law_pen_here", "_law_many", "_law_left", "_law_got", "_law_stir"] ["_law_pen_here", "_law_many"] (defScope s__law_draw) := ⟨rfl, rfl, rfl, by decide +kernel, rfl, by decide +kernel, by decide +kernel⟩
theorem ok__law_draw (F : Df K mg "_law_draw" s__law_draw ["_law_pen_here", "_law_many"]) (T : Tx mg)  : Fn P w K mg base 1 "_law_draw" ["_law_pen_here", "_law_many"] sp__law_draw := by
 refine F.fn sc__law_draw (fun vs H Q E h => ?_) (fun f cdv A outer s H vs Q E hr h => ?_)
 ·unfold sp__law_draw at h; split at h; rfl; exact h.elim
 refine ⟨_, (pss_cons (c_if (c_cmpT op_eq (pe_ix (ixL K) (cy 0) pe_int (fun _ _ => rfl)) pe_int (nomark _)) (pss_cons (ps_asg (pe_callB call_divmod rfl T.b_divmod boot_divmod (pb2 (pe_ix (ixL K) (cy 0) pe_int (fun _ _ => rfl)) (cy 1))) (pgT K (n := 2) (pgs_cons (pgy 2 sc__law_draw.nd) (pgs_cons (pgy 3 sc__law_draw.nd) pgs_nil)))) (pss_cons (ps_asg (cy 2) (pg_sub (cy 0) pe_int set_list)) (pss_one (ps_ret (cy 3))))) pss_nil) (pss_cons (ps_set (i := 4) sc__law_draw.nd rfl (loc_of (by rfl)) (pe_op o_mod (pe_op o_mul (pe_op o_add (pe_op o_mod (pe_ix (ixL K) (cy 0) pe_int (fun _ _ => rfl)) pe_int) pe_int) pe_int) pe_int)) (pss_cons (ps_set (i := 4) sc__law_draw.nd rfl (loc_of (by rfl)) (pe_op o_mod (pe_op o_add (pe_op o_mul (cy 4) (cy 4)) pe_int) pe_int)) (pss_cons (ps_asg (pe_op o_mod (pe_op o_add (pe_op o_mul (cy 4) pe_int) pe_int) pe_int) (pg_sub (cy 0) pe_int set_list)) (pss_one (ps_ret (pe_op o_mod (pe_op o_fdiv (pe_ix (ixL K) (cy 0) pe_int (fun _ _ => rfl)) pe_int) (cy 1)))))))), ?_⟩
 unfold sp__law_draw at h
 split at h
 ·rename_i p m
  obtain ⟨⟨l, f, hp⟩, h0, h1, q⟩ := h
  refine ⟨p, [.int l, .int f], 1, .int f, rfl, rfl, SqL.of hp, rfl, rfl, ⟨fun c => ?_, fun c => ?_⟩⟩
  ·refine ⟨p, [.int l, .int f], 0, .int l, rfl, rfl, SqL.of hp, rfl, l, m, rfl, ⟨h0, by omega⟩, fun t ht => ?_⟩
   have hpt : p ≠ t := ne_of_none hp ht
   have hp' : upd H t (.tup [.int (l / m), .int (l % m)]) p = some (.lst [.int l, .int f]) := by rw [upd_ne hpt]; exact hp
   refine ⟨t, [.int (l / m), .int (l % m)], rfl, SqT.of upd_same, rfl, _, _, rfl, _, _, rfl, rfl, ?_⟩
   refine ⟨p, [.int l, .int f], 0, 0, rfl, rfl, hp', rfl, ?_⟩
   exact q _ _ (Int.emod_nonneg _ (by omega)) (Int.emod_lt_of_pos _ h0) ((Ev.new ht).trans (Ev.pen hp')) ⟨l / m, f, upd_same⟩
  ·have b1 : ∀ x : Int, -(2 ^ 64) < x % 2147483629 := fun x => Int.lt_of_lt_of_le (by decide) (Int.emod_nonneg x (by decide))
   have b2 : ∀ x : Int, x % 2147483629 < 2 ^ 64 := fun x => Int.lt_trans (Int.emod_lt_of_pos x (by decide)) (by decide)
   have g1 : (0 : Int) < 2147483647 := by decide
   have g2 : (0 : Int) < 2147483629 := by decide
   have g3 : (0 : Int) < 2147483587 := by decide
   have c1 : -(2 ^ 64) < (69621 : Int) ∧ (69621 : Int) < 2 ^ 64 := by decide
   have c2 : -(2 ^ 64) < (48271 : Int) ∧ (48271 : Int) < 2 ^ 64 := by decide
   refine ⟨p, [.int l, .int f], 0, .int l, rfl, rfl, SqL.of hp, rfl, g1, .inr c1, g2, .inl ⟨b1 _, b2 _⟩, g3, .inr c2, g2, p, [.int l, .int f], 0, 0, rfl, rfl, hp, rfl, ?_⟩
   refine ⟨p, _, 0, _, rfl, rfl, SqL.of upd_same, rfl, ⟨by decide, by decide⟩, h0, ?_⟩
   exact q _ _ (Int.emod_nonneg _ (by omega)) (Int.emod_lt_of_pos _ h0) (Ev.pen hp) ⟨_, f, upd_same⟩
 ·exact h.elim
end
end MF

end

section
namespace MF
open PySem PySem.Spec PyProof.Rows L2
mutual
def noMut : PyData → Bool
 | .list _ => false | .dict _ => false | .tuple ds => noMuts ds | _ => true
def noMuts : List PyData → Bool
 | [] => true
 | d :: ds => noMut d && noMuts ds
end
def TEv (H H' : Hp) : Prop := ∀ a xs, H a = some (.tup xs) → H' a = some (.tup xs)
theorem TEv.trans {H H1 H2 : Hp} (a : TEv H H1) (b : TEv H1 H2) : TEv H H2 := fun c o h => b c o (a c o h)
theorem _root_.L2.Ev.tev {p : Addr} {H H' : Hp} (h : Ev p H H') : TEv H H' := fun a xs q => h.tup q
theorem TEv.upd {H : Hp} {a : Addr} {ys zs : List V} (h : H a = some (.lst ys)) : TEv H (upd H a (.lst zs)) := fun b xs q => by
 rw [upd_ne (ne_of q h (by intro z; cases z))]; exact q
mutual
theorem Rep.tev {p p' : Addr} {H H' : Hp} (h : TEv H H') : ∀ (d : PyData) (v : V), noMut d = true → Rep p H d v → Rep p' H' d v
 | .none, v, _, q => q
 | .bool _, v, _, q => q
 | .int _, v, _, q => q
 | .str _, v, _, q => q
 | .tuple ds, v, n, q => by
  unfold Rep at q ⊢
  obtain ⟨a, xs, e, r, z⟩ := q
  exact ⟨a, xs, e, h _ _ r, Reps.tev h ds xs (by unfold noMut at n; exact n) z⟩
 | .list ds, v, n, q => by unfold noMut at n; cases n
 | .dict kvs, v, n, q => by unfold noMut at n; cases n
theorem Reps.tev {p p' : Addr} {H H' : Hp} (h : TEv H H') : ∀ (ds : List PyData) (xs : List V), noMuts ds = true → Reps p H ds xs → Reps p' H' ds xs
 | [], xs, _, q => by unfold Reps at q ⊢; exact q
 | d :: ds, xs, n, q => by
  unfold Reps at q ⊢
  unfold noMuts at n
  obtain ⟨n1, n2⟩ := Bool.and_eq_true_iff.mp n
  obtain ⟨x, r, e, z, zs⟩ := q
  exact ⟨x, r, e, Rep.tev h d x n1 z, Reps.tev h ds r n2 zs⟩
end
theorem noMuts_all {ds : List PyData} (h : ∀ d ∈ ds, noMut d = true) : noMuts ds = true := by
 induction ds with
 | nil => rfl
 | cons d ds ih => unfold noMuts; rw [h d List.mem_cons_self, ih fun x hx => h x (List.mem_cons_of_mem _ hx)]; rfl
theorem _root_.L2.Ev.own {p b : Addr} {H H' : Hp} {o : HO} (h : Ev p H H') (n : H b = none) : Ev p H (upd H' b o) := fun x u q => (h x u q).elim .inl fun r => .inr (by rw [upd_ne (ne_of_none q n)]; exact r)
def GoodB (d : PyData) : Prop := ∃ m c : Int, d = .tuple [.int m, .int c] ∧ 1 ≤ m ∧ m ≤ 9 ∧ 1 ≤ c ∧ c ≤ 9
def GoodE (d : PyData) : Prop := ∃ a f e : Int, d = .tuple [.int a, .int f, .int e] ∧ 1 ≤ a ∧ a ≤ 9 ∧ 0 ≤ f ∧ f ≤ 7 ∧ 1 ≤ e ∧ e ≤ 8
theorem GoodB.nm {d : PyData} (h : GoodB d) : noMut d = true := by obtain ⟨m, c, rfl, _⟩ := h; rfl
theorem GoodE.nm {d : PyData} (h : GoodE d) : noMut d = true := by obtain ⟨m, c, e, rfl, _⟩ := h; rfl
structure GoodP (bs es : List PyData) (lo hi st : Int) : Prop where
 b : ∀ d ∈ bs, GoodB d
 b1 : 1 ≤ bs.length
 b4 : bs.length ≤ 4
 e : ∀ d ∈ es, GoodE d
 e4 : es.length ≤ 4
 lo0 : 0 ≤ lo
 ls : lo ≤ st
 sh : st ≤ hi
 h4 : hi ≤ 40
def plantD (bs es : List PyData) (lo hi st : Int) : PyData := .tuple [.tuple bs, .tuple es, .tuple [.int lo, .int hi, .int st]]
def sp__law_plant : Sp := fun vs H Q _ => match vs with | [.ref p] => Pen p H ∧ ∀ v H' bs es lo hi st, GoodP bs es lo hi st → Rep p H' (plantD bs es lo hi st) v → Ev p H H' → Pen p H' → Q v H' | _ => False
structure Filled (Good : PyData → Prop) (p b : Addr) (H H2 : Hp) (i : Nat) : Prop where
 ev : Ev p H H2
 pen : Pen p H2
 ex : ∃ xs ds, H2 b = some (.lst xs) ∧ Reps p H2 ds xs ∧ (∀ d ∈ ds, Good d) ∧ ds.length = i
theorem Filled.step {Good : PyData → Prop} {p b t : Addr} {H H2 H3 : Hp} {i : Nat} {d : PyData} {ys xs : List V} {ds : List PyData} (nm : ∀ d, Good d → noMut d = true) (hx : H2 b = some (.lst xs)) (rs : Reps p H2 ds xs) (gd : ∀ d ∈ ds, Good d) (hl : ds.length = i) (e3 : Ev p H2 H3) (nb : b ≠ p) (hb : H b = none) (ev : Ev p H H3) (pn : Pen p H3)
  (ht : H3 t = none) (rd : Rep p (upd H3 t (.tup ys)) d (.ref t)) (g : Good d) : Filled Good p b H (upd (upd H3 t (.tup ys)) b (.lst (xs ++ [.ref t]))) (i + 1) := by
 have hb3 : H3 b = some (.lst xs) := e3.lst hx nb
 have hbt : b ≠ t := ne_of_none hb3 ht
 have hbt' : upd H3 t (.tup ys) b = some (.lst xs) := by rw [upd_ne hbt]; exact hb3
 have tv : TEv (upd H3 t (.tup ys)) (upd (upd H3 t (.tup ys)) b (.lst (xs ++ [.ref t]))) := TEv.upd hbt'
 have pn2 : Pen p (upd H3 t (.tup ys)) := pn.new ht
 refine ⟨(ev.trans (Ev.new ht)).own hb, ?_, xs ++ [.ref t], ds ++ [d], upd_same, ?_, ?_, by simp [hl]⟩
 ·obtain ⟨l, f, e⟩ := pn2
  exact ⟨l, f, by rw [upd_ne (Ne.symm nb)]; exact e⟩
 ·exact (Reps.tev ((e3.trans (Ev.new ht)).tev.trans tv) ds xs (noMuts_all fun d h => nm d (gd d h)) rs).append (.cons (Rep.tev tv d _ (nm d g) rd) .nil)
 ·intro x hx
  rcases List.mem_append.mp hx with h | h
  ·exact gd x h
  ·rw [List.mem_singleton.mp h]; exact g
theorem Filled.done {Good : PyData → Prop} {p b : Addr} {H H2 H3 : Hp} {i : Nat} (f : Filled Good p b H H2 i) (nb : b ≠ p) (e3 : Ev p H2 H3) : ∃ xs ds, H3 b = some (.lst xs) ∧ Reps p H3 ds xs ∧ (∀ d ∈ ds, Good d) ∧ ds.length = i := by
 obtain ⟨xs, ds, h1, h2, h3, h4⟩ := f.ex
 exact ⟨xs, ds, e3.lst h1 nb, Reps.ev e3 ds xs h2, h3, h4⟩
theorem Filled.other {Good : PyData → Prop} {p b e t : Addr} {H H4 H7 : Hp} {i : Nat} {ys zs ws : List V} (nm : ∀ d, Good d → noMut d = true) (f : Filled Good p b H H4 i) (e47 : Ev p H4 H7) (ht : H7 t = none) (he : H7 e = some (.lst ys)) (hHe : H e = none) (nb : b ≠ p) (neb : b ≠ e) (ne : e ≠ p) (pn : Pen p H7) :
  Filled Good p b H (upd (upd H7 t (.tup zs)) e (.lst ws)) i := by
 obtain ⟨xs, ds, h1, h2, h3, h4⟩ := f.ex
 have h7 : H7 b = some (.lst xs) := e47.lst h1 nb
 have het : upd H7 t (.tup zs) e = some (.lst ys) := by rw [upd_ne (ne_of_none he ht)]; exact he
 refine ⟨((f.ev.trans e47).trans (Ev.new ht)).own hHe, ?_, xs, ds, ?_, ?_, h3, h4⟩
 ·obtain ⟨l, g, z⟩ := pn.new (o := .tup zs) ht
  exact ⟨l, g, by rw [upd_ne (Ne.symm ne)]; exact z⟩
 ·rw [upd_ne neb, upd_ne (ne_of_none h7 ht)]; exact h7
 ·exact Reps.tev ((e47.trans (Ev.new ht)).tev.trans (TEv.upd het)) ds xs (noMuts_all fun d h => nm d (h3 d h)) h2
theorem small63 {n : Nat} (h : n ≤ 1000) : n < sizeLine := Nat.lt_of_le_of_lt h (by decide)
section
variable {P : Program} {w : World} {K : PySem.W.Frag} {mg : Str → Option Value} {base : Heap}
theorem sc__law_plant : FnScope ["_law_pen_here", "_law_boilers", "_law_turn", "_law_make", "_law_engines", "_law_low", "_law_high"] ["_law_pen_here"] (defScope s__law_plant) := ⟨rfl, rfl, rfl, by decide +kernel, rfl, by decide +kernel, by decide +kernel⟩
theorem ok__law_plant (F : Df K mg "_law_plant" s__law_plant ["_law_pen_here"]) (T : Tx mg) (D__law_draw : Fn P w K mg base 1 "_law_draw" ["_law_pen_here", "_law_many"] sp__law_draw) : Fn P w K mg base 2 "_law_plant" ["_law_pen_here"] sp__law_plant := by
 refine F.fn sc__law_plant (fun vs H Q E h => ?_) (fun f cdv A outer s H vs Q E hr h => ?_)
 ·unfold sp__law_plant at h; split at h; rfl; exact h.elim
 refine ⟨_, (pss_cons (ps_set (i := 1) sc__law_plant.nd rfl (loc_of (by rfl)) (c_lst pa_nil)) (pss_cons (ps_for PassesOwn.never rfl (pi_range1 rfl T.b_range (pb1 (pe_op o_add pe_int (c_call D__law_draw (hr.mono (by decide)) rfl (pb2 (cy 0) pe_int))))) (pgy 2 sc__law_plant.nd) (pss_cons (ps_set (i := 3) sc__law_plant.nd rfl (loc_of (by rfl)) (pe_ix (ixL K) (c_lst (pb3 pe_int pe_int (pe_op o_add pe_int (c_call D__law_draw (hr.mono (by decide)) rfl (pb2 (cy 0) pe_int))))) (c_call D__law_draw (hr.mono (by decide)) rfl (pb2 (cy 0) pe_int)) (fun _ _ => rfl))) (pss_one (ps_expr (pe_bm PySem.F.plainAttrs_list PySem.F.slot_list_append PySem.F.type_list_append mt_append (cy 1) (pb1 (c_tup (pb2 (cy 3) (pe_op o_add pe_int (c_call D__law_draw (hr.mono (by decide)) rfl (pb2 (cy 0) (pe_ix (ixL K) (c_lst (pb2 pe_int pe_int)) (c_call D__law_draw (hr.mono (by decide)) rfl (pb2 (cy 0) pe_int)) (fun _ _ => rfl))))))))))))) (pss_cons (ps_set (i := 4) sc__law_plant.nd rfl (loc_of (by rfl)) (c_lst pa_nil)) (pss_cons (ps_for PassesOwn.never rfl (pi_range1 rfl T.b_range (pb1 (c_call D__law_draw (hr.mono (by decide)) rfl (pb2 (cy 0) pe_int)))) (pgy 2 sc__law_plant.nd) (pss_one (ps_expr (pe_bm PySem.F.plainAttrs_list PySem.F.slot_list_append PySem.F.type_list_append mt_append (cy 4) (pb1 (c_tup (pb3 (pe_op o_add pe_int (c_call D__law_draw (hr.mono (by decide)) rfl (pb2 (cy 0) pe_int))) (c_call D__law_draw (hr.mono (by decide)) rfl (pb2 (cy 0) pe_int)) (pe_op o_add pe_int (c_call D__law_draw (hr.mono (by decide)) rfl (pb2 (cy 0) pe_int)))))))))) (pss_cons (ps_set (i := 5) sc__law_plant.nd rfl (loc_of (by rfl)) (pe_ix (ixL K) (c_lst (pb2 pe_int (c_call D__law_draw (hr.mono (by decide)) rfl (pb2 (cy 0) pe_int)))) (c_call D__law_draw (hr.mono (by decide)) rfl (pb2 (cy 0) pe_int)) (fun _ _ => rfl))) (pss_cons (ps_set (i := 6) sc__law_plant.nd rfl (loc_of (by rfl)) (pe_callB (call_min2 rfl) rfl T.b_min boot_min (pb2 pe_int (pe_op o_add (cy 5) (pe_ix (ixL K) (c_lst (pa_cons pe_int (pb4 pe_int pe_int pe_int (c_call D__law_draw (hr.mono (by decide)) rfl (pb2 (cy 0) pe_int))))) (c_call D__law_draw (hr.mono (by decide)) rfl (pb2 (cy 0) pe_int)) (fun _ _ => rfl)))))) (pss_one (ps_ret (c_tup (pb3 (pe_callTy (tupOf K) rfl T.b_tuple boot_tuple' (pb1 (cy 1))) (pe_callTy (tupOf K) rfl T.b_tuple boot_tuple' (pb1 (cy 4))) (c_tup (pb3 (cy 5) (cy 6) (pe_op o_add (cy 5) (c_call D__law_draw (hr.mono (by decide)) rfl (pb2 (cy 0) (pe_op o_add (pe_op o_sub (cy 6) (cy 5)) pe_int)))))))))))))))), ?_⟩
 unfold sp__law_plant at h
 split at h
 ·rename_i p
  obtain ⟨pn, q⟩ := h
  refine fun b hb => ?_
  have nb : b ≠ p := pn.ne hb
  refine ⟨pn.new hb, by decide, by decide, fun g1 H1 a1 b1 e1 pn1 => ?_⟩
  have ev1 : Ev p H H1 := (Ev.new hb).trans e1
  have hb1 : H1 b = some (.lst []) := e1.lst upd_same nb
  refine ⟨1 + g1, rfl, by omega, by omega, for_range (n := (1 + g1).toNat) (fun i σ H2 => ∃ t m, σ = [some (.ref p), some (.ref b), t, m, none, none, none] ∧ Filled GoodB p b H H2 i)
   ⟨none, none, rfl, ev1, pn1, [], [], hb1, .nil, (fun _ h => nomatch h), rfl⟩ (fun i σ H2 hi hP => ?_) fun σ H2 hP => ?_⟩
  ·obtain ⟨t, m, rfl, ev, pn2, xs, ds, hx, rs, gd, hl⟩ := hP
   refine ⟨pn2, by decide, by decide, fun g2 H3 a2 b2 e2 pn3 l1 hl1 => ⟨pn3.new hl1, by decide, by decide, fun g3 H4 a3 b3 e3 pn4 => ?_⟩⟩
   obtain ⟨v, hv, hat⟩ := pick (ns := [1, 9, 1 + g2]) a3 (by simpa using b3)
   have hb4 : H4 b = some (.lst xs) := e3.lst (by rw [upd_ne (ne_of_none (e2.lst hx nb) hl1)]; exact e2.lst hx nb) nb
   refine ⟨l1, _, g3, .int v, rfl, rfl, SqL.of (e3.lst upd_same (pn3.ne hl1)), hat, .inl ⟨rfl, _, SqL.of hb4⟩, fun l2 hl2 => ⟨pn4.new hl2, by decide, by decide, fun g4 H5 a4 b4 e4 pn5 => ?_⟩⟩
   obtain ⟨v2, hv2, hat2⟩ := pick (ns := [3, 9]) a4 (by simpa using b4)
   have hv2' : v2 = 3 ∨ v2 = 9 := by simpa using hv2
   refine ⟨l2, _, g4, .int v2, rfl, rfl, SqL.of (e4.lst upd_same (pn4.ne hl2)), hat2, pn5, by omega, by omega, fun g5 H6 a5 b5 e5 pn6 t1 ht1 => ?_⟩
   have e26 : Ev p H2 H6 := e2.trans ((Ev.new hl1).trans (e3.trans ((Ev.new hl2).trans (e4.trans e5))))
   have hv' : v = 1 ∨ v = 9 ∨ v = 1 + g2 := by simpa using hv
   refine ⟨b, xs, .ref t1, rfl, rfl, by rw [upd_ne (ne_of_none (e26.lst hx nb) ht1)]; exact e26.lst hx nb, small63 (by rw [← rs.len, hl]; omega), _, _, rfl, ?_⟩
   exact Filled.step (fun d h => h.nm) hx rs gd hl e26 nb hb (ev.trans e26) pn6 ht1 (Rep.tup upd_same (.cons Rep.int (.cons Rep.int .nil))) ⟨v, 1 + g5, rfl, by omega, by omega, by omega, by omega⟩
  obtain ⟨t, m, rfl, fb⟩ := hP
  refine fun e he => ?_
  have ne : e ≠ p := fb.pen.ne he
  have hne : H e = none := by
   cases z : H e with
   | none => rfl
   | some o => exact ((fb.ev e o z).elim (fun ⟨x, _⟩ => absurd x ne) fun x => by rw [x] at he; cases he)
  have neb : e ≠ b := by
   obtain ⟨xs, ds, h1, _⟩ := fb.ex
   exact Ne.symm (ne_of_none h1 he)
  refine ⟨fb.pen.new he, by decide, by decide, fun g6 H3 a6 b6 e6 pn3 => ?_⟩
  have fb3 : Filled GoodB p b H H3 (1 + g1).toNat := ⟨fb.ev.trans ((Ev.new he).trans e6), pn3, fb.done nb ((Ev.new he).trans e6)⟩
  refine ⟨g6, rfl, by omega, by omega, for_range (n := g6.toNat) (fun i σ H4 => ∃ t m, σ = [some (.ref p), some (.ref b), t, m, some (.ref e), none, none] ∧ Filled GoodB p b H H4 (1 + g1).toNat ∧ Filled GoodE p e H H4 i)
   ⟨_, _, rfl, fb3, fb3.ev, pn3, [], [], e6.lst upd_same ne, .nil, (fun _ h => nomatch h), rfl⟩ (fun i σ H4 hi hP => ?_) fun σ H4 hP => ?_⟩
  ·obtain ⟨t, m, rfl, fb4, ev, pn2, xs, ds, hx, rs, gd, hl⟩ := hP
   refine ⟨.inl ⟨rfl, _, SqL.of hx⟩, pn2, by decide, by decide, fun g7 H5 a7 b7 e7 pn5 => ⟨pn5, by decide, by decide, fun g8 H6 a8 b8 e8 pn6 => ⟨pn6, by decide, by decide, fun g9 H7 a9 b9 e9 pn7 t1 ht1 => ?_⟩⟩⟩
   have e47 : Ev p H4 H7 := e7.trans (e8.trans e9)
   have he7 := e47.lst hx ne
   refine ⟨e, xs, .ref t1, rfl, rfl, by rw [upd_ne (ne_of_none he7 ht1)]; exact he7, small63 (by rw [← rs.len, hl]; omega), _, _, rfl, ?_, ?_⟩
   ·exact Filled.other (fun d h => h.nm) fb4 e47 ht1 he7 hne nb (Ne.symm neb) ne pn7
   ·exact Filled.step (fun d h => h.nm) hx rs gd hl e47 ne hne (ev.trans e47) pn7 ht1 (Rep.tup upd_same (.cons Rep.int (.cons Rep.int (.cons Rep.int .nil)))) ⟨1 + g7, g8, 1 + g9, rfl, by omega, by omega, by omega, by omega, by omega, by omega⟩
  obtain ⟨t, m, rfl, fb4, fe4⟩ := hP
  have pn4 := fb4.pen
  refine ⟨pn4, by decide, by decide, fun g7 H5 a7 b7 e7 pn5 l1 hl1 => ⟨pn5.new hl1, by decide, by decide, fun g8 H6 a8 b8 e8 pn6 => ?_⟩⟩
  obtain ⟨low, hlow, hat⟩ := pick (ns := [0, g7]) a8 (by simpa using b8)
  have hlow' : low = 0 ∨ low = g7 := by simpa using hlow
  refine ⟨l1, _, g8, .int low, rfl, rfl, SqL.of (e8.lst upd_same (pn5.ne hl1)), hat, pn6, by decide, by decide, fun g9 H7 a9 b9 e9 pn7 l2 hl2 => ⟨pn7.new hl2, by decide, by decide, fun g10 H8 a10 b10 e10 pn8 => ?_⟩⟩
  obtain ⟨x, hx, hat2⟩ := pick (ns := [0, 3, 10, 40, g9]) a10 (by simpa using b10)
  have hx' : x = 0 ∨ x = 3 ∨ x = 10 ∨ x = 40 ∨ x = g9 := by simpa using hx
  refine ⟨l2, _, g10, .int x, rfl, rfl, SqL.of (e10.lst upd_same (pn7.ne hl2)), hat2, 40, low + x, rfl, ?_⟩
  have hhi : ∃ hi : Int, (if low + x < 40 then low + x else 40) = hi ∧ low ≤ hi ∧ hi ≤ 40 := by
   by_cases c : low + x < 40
   ·exact ⟨low + x, if_pos c, by omega, by omega⟩
   ·exact ⟨40, if_neg c, by omega, by omega⟩
  obtain ⟨hi, ehi, hi1, hi2⟩ := hhi
  rw [ehi]
  have e48 : Ev p H4 H8 := e7.trans ((Ev.new hl1).trans (e8.trans (e9.trans ((Ev.new hl2).trans e10))))
  obtain ⟨xs, bs, hb8, rb8, gb, lb⟩ := fb4.done nb e48
  obtain ⟨ys, es, he8, re8, ge, le⟩ := fe4.done ne e48
  refine ⟨b, xs, rfl, .inl ⟨SqL.of hb8, fun c1 hc1 => ⟨e, ys, rfl, .inl ⟨SqL.of (by rw [upd_ne (ne_of_none he8 hc1)]; exact he8), fun c2 hc2 => ⟨(pn8.new hc1).new hc2, by omega, by omega, fun g11 H9 a11 b11 e11 pn9 c3 hc3 c4 hc4 => ?_⟩⟩⟩⟩⟩
  have e89 : Ev p H8 (upd (upd H9 c3 (.tup [.int low, .int hi, .int (low + g11)])) c4 (.tup [.ref c1, .ref c2, .ref c3])) := (Ev.new hc1).trans ((Ev.new hc2).trans (e11.trans ((Ev.new hc3).trans (Ev.new hc4))))
  have t1 : upd (upd H9 c3 (.tup [.int low, .int hi, .int (low + g11)])) c4 (.tup [.ref c1, .ref c2, .ref c3]) c1 = some (.tup xs) :=
   ((Ev.new hc2).trans (e11.trans ((Ev.new hc3).trans (Ev.new hc4)))).tup upd_same
  have t2 : upd (upd H9 c3 (.tup [.int low, .int hi, .int (low + g11)])) c4 (.tup [.ref c1, .ref c2, .ref c3]) c2 = some (.tup ys) := (e11.trans ((Ev.new hc3).trans (Ev.new hc4))).tup upd_same
  have t3 : upd (upd H9 c3 (.tup [.int low, .int hi, .int (low + g11)])) c4 (.tup [.ref c1, .ref c2, .ref c3]) c3 = some (.tup [.int low, .int hi, .int (low + g11)]) := (Ev.new (p := p) hc4).tup upd_same
  refine q _ _ bs es low hi (low + g11) ⟨gb, by omega, by omega, ge, by omega, by omega, by omega, by omega, hi2⟩ ?_ (fb4.ev.trans (e48.trans e89)) ((pn9.new hc3).new hc4)
  exact Rep.tup upd_same (.cons (Rep.tup t1 (Reps.ev e89 _ _ rb8)) (.cons (Rep.tup t2 (Reps.ev e89 _ _ re8)) (.cons (Rep.tup t3 (.cons Rep.int (.cons Rep.int (.cons Rep.int .nil)))) .nil)))
 ·exact h.elim
end
end MF

end

section
namespace MF
open PySem PySem.Spec PyProof.Rows L2
abbrev pr (q : Int × Int) : PyData := .tuple [.int q.1, .int q.2]
def lawRow (d : PyData) (prs : List (Int × Int)) : Bool := match d with | .tuple ds => ds.length == prs.length && (ds.zip prs).all (fun q => isWF q.1 q.2.1 q.2.2) | _ => false
abbrev sp__law_number : Sp := sp_is_whole_from
theorem len__law_number {vs H Q E} (h : sp__law_number vs H Q E) : vs.length = 3 := len_is_whole_from h
def sp__law_row : Sp := fun vs H Q _ => match vs with | [v, .ref e] => ∃ p d xs prs, Rep p H d v ∧ H e = some (.lst xs) ∧ Reps p H (prs.map pr) xs ∧ prs.length ≤ 10 ∧ ∀ b H', b = lawRow d prs → Same H H' → Q (.bl b) H' | _ => False
theorem take_zip {α β : Type} : ∀ {ds : List α} {es : List β} {i : Nat} {d : α} {e : β}, ds[i]? = some d → es[i]? = some e → (ds.zip es)[i]? = some (d, e)
 | ds, es, i, d, e, h1, h2 => by rw [List.getElem?_zip_eq_some]; exact ⟨h1, h2⟩
section
variable {P : Program} {w : World} {K : PySem.W.Frag} {mg : Str → Option Value} {base : Heap}
theorem sc__law_number : FnScope ["_law_thing", "_law_least", "_law_most"] ["_law_thing", "_law_least", "_law_most"] (defScope s__law_number) := ⟨rfl, rfl, rfl, by decide +kernel, rfl, by decide +kernel, by decide +kernel⟩
theorem ok__law_number (F : Df K mg "_law_number" s__law_number ["_law_thing", "_law_least", "_law_most"]) (T : Tx mg)  : Fn P w K mg base 1 "_law_number" ["_law_thing", "_law_least", "_law_most"] sp__law_number := by
 refine F.fn sc__law_number (fun vs H Q E h => ?_) (fun f cdv A outer s H vs Q E hr h => ?_)
 ·exact len__law_number h
 refine ⟨_, (pss_one (ps_ret (c_andV (pe_callB call_isi rfl T.b_isinstance boot_isinstance (pb2 (cy 0) (pe_bltn (v := .ty "int") rfl T.b_int L2.boot_int rfl))) (c_andV (c_notV (pe_callB call_isi rfl T.b_isinstance boot_isinstance (pb2 (cy 0) (pe_bltn (v := .ty "bool") rfl T.b_bool L2.boot_bool rfl)))) (pe_one (c_chain o_le o_le (cy 1) (cy 0) (cy 2))))))), ?_⟩
 unfold sp__law_number sp_is_whole_from at h
 split at h
 ·rename_i v lo hi
  obtain ⟨p, d, r, q⟩ := h
  refine ⟨_, r.ty, .inl rfl, ⟨fun c => ⟨_, r.ty, .inr (.inl rfl), ⟨fun c2 => ?_, fun c2 => ?_⟩⟩, fun c => ?_⟩⟩
  ·cases d with
   | int i =>
    unfold Rep at r
    subst r
    refine ⟨fun c => ?_, fun c => ?_⟩
    ·exact q _ (by unfold isWF; dsimp only; rw [c]; rfl)
    ·exact q _ (by unfold isWF; dsimp only; rw [c]; rfl)
   | bool b => cases c2
   | _ => cases c
  ·exact q _ (by cases d <;> first | rfl | cases c2)
  ·exact q _ (by cases d <;> first | rfl | cases c)
 ·exact h.elim
theorem sc__law_row : FnScope ["_law_thing", "_law_ends"] ["_law_thing", "_law_ends"] (defScope s__law_row) := ⟨rfl, rfl, rfl, by decide +kernel, rfl, by decide +kernel, by decide +kernel⟩
theorem ok__law_row (F : Df K mg "_law_row" s__law_row ["_law_thing", "_law_ends"]) (T : Tx mg) (D__law_number : Fn P w K mg base 1 "_law_number" ["_law_thing", "_law_least", "_law_most"] sp__law_number) : Fn P w K mg base 2 "_law_row" ["_law_thing", "_law_ends"] sp__law_row := by
 refine F.fn sc__law_row (fun vs H Q E h => ?_) (fun f cdv A outer s H vs Q E hr h => ?_)
 ·unfold sp__law_row at h; split at h; rfl; exact h.elim
 refine ⟨_, (pss_cons (c_if (PW.pt (c_or (pt_not (c_val (pe_callB call_isi rfl T.b_isinstance boot_isinstance (pb2 (cy 0) (pe_bltn (v := .ty "tuple") rfl T.b_tuple boot_tuple' rfl))))) (pw_or1 (c_cmpT op_ne (pe_callB (lenS K) rfl T.b_len PySem.boot_len (pb1 (cy 0))) (pe_callB (lenS K) rfl T.b_len PySem.boot_len (pb1 (cy 1))) (nomark _))))) (pss_one (ps_ret pe_bl)) pss_nil) (pss_one (ps_ret (pe_callB (call_all rfl) rfl T.b_all boot_all (pb1 (pe_comp ["_law_one", "_law_least", "_law_most"] [none, none, none] rfl (piZTL P w K rfl T.b_zip (pb2 (cy 0) (cy 1))) (BlockScope.of rfl) (fun _ _ _ _ => (pgT K (n := 2) (pgs_cons (pgy 0 (nd_of (by rfl))) (pgs_cons (pgT K (n := 2) (pgs_cons (pgy 1 (nd_of (by rfl))) (pgs_cons (pgy 2 (nd_of (by rfl))) pgs_nil))) pgs_nil)))) (fun _ _ _ _ => pts_nil) (fun _ _ _ _ => (c_call D__law_number (hr.mono (by decide)) rfl (pb3 (cy 0) (cy 1) (cy 2)))))))))), ?_⟩
 unfold sp__law_row at h
 split at h
 ·rename_i v e
  obtain ⟨p, d, xs, prs, r, he, rs, hp10, q⟩ := h
  refine ⟨_, r.ty, .inr (.inr (.inl rfl)), ⟨fun c => ⟨fun _ => ?_, fun z => by cases z⟩, fun c => ?_⟩⟩
  ·refine q _ _ ?_ (Same.refl _)
   cases d <;> first | rfl | cases c
  ·cases d <;> first | cases c | skip
   rename_i ds
   obtain ⟨l, ys, rfl, hl, rd⟩ := Rep.shape r
   have l1 := rd.len
   have l2 := rs.len
   rw [List.length_map] at l2
   refine ⟨l, ys, rfl, .inr (SqT.of hl), e, xs, rfl, .inl (SqL.of he), rfl, ⟨fun c2 => ?_, fun c2 => ?_⟩⟩
   ·have c3 : ¬ (ys.length : Int) = (xs.length : Int) := by
     intro z
     rw [z] at c2; simp at c2
    refine q _ _ ?_ (Same.refl _)
    unfold lawRow; dsimp only
    rw [show (ds.length == prs.length) = false from by simp; omega]; rfl
   ·have c3 : ys.length = xs.length := by
     have : V.int (ys.length : Int) = V.int (xs.length : Int) := by simpa using c2
     injection this with z
     omega
    refine ⟨l, e, rfl, ⟨ys, SqT.of hl⟩, ⟨xs, SqL.of he⟩, walk_zip (xs := ys) (ys := xs) (fun i zs H' => Same H H' ∧ zs = ((ds.zip prs).take i).map fun q => V.bl (isWF q.1 q.2.1 q.2.2)) (by omega) c3 ⟨Same.refl _, rfl⟩
     (fun i zs H' h => by rw [h.2, List.length_map, List.length_take]; omega) (fun i zs H' h => ⟨SqT.of (h.1 _ _ hl), SqL.of (h.1 _ _ he)⟩) (fun i x y zs H' T hx hy h hT => ?_) fun zs H' h => ?_⟩
    ·obtain ⟨d1, hd1, rd1⟩ := rd.got hx
     obtain ⟨d2, hd2, rd2⟩ := rs.got hy
     rw [List.getElem?_map] at hd2
     cases hq : prs[i]? with
     | none => rw [hq] at hd2; cases hd2
     | some pq =>
      rw [hq] at hd2
      obtain rfl : pr pq = d2 := Option.some.inj hd2
      obtain ⟨a2, us, rfl, ha2, ru⟩ := Rep.shape rd2
      obtain ⟨u1, u2, rfl, r1, r2⟩ := Reps.two ru
      unfold Rep at r1 r2
      subst r1 r2
      have hT' : upd H' T (.tup [x, .ref a2]) a2 = some (.tup [.int pq.1, .int pq.2]) := (Same.new hT) _ _ (h.1 _ _ ha2)
      refine ⟨T, [x, .ref a2], rfl, SqT.of upd_same, rfl, x, [.ref a2], rfl, .ref a2, [], rfl, a2, [.int pq.1, .int pq.2], rfl, SqT.of hT', rfl, _, _, rfl, _, _, rfl, rfl, rfl, trivial, fun _ => ?_, fun z => by cases z⟩
      refine ⟨p, d1, Rep.ev (Ev.same (h.1.trans (Same.new hT))) _ _ rd1, fun b hb => ⟨h.1.trans (Same.new hT), ?_⟩⟩
      rw [h.2, hb, take_map _ (take_zip hd1 hq)]
    ·intro m hm
     refine ⟨m, (ds.zip prs).map fun q => isWF q.1 q.2.1 q.2.2, rfl, ?_, ?_⟩
     ·rw [upd_same, h.2, List.map_map]
      have : (ds.zip prs).take ys.length = ds.zip prs := List.take_of_length_le (by rw [List.length_zip]; omega)
      rw [this]; rfl
     ·refine q _ _ ?_ (h.1.trans (Same.new hm))
      unfold lawRow; dsimp only
      rw [show (ds.length == prs.length) = true from by simp; omega, List.all_map, Bool.true_and]; rfl
 ·exact h.elim
end
end MF

end

section
namespace MF
open PySem PySem.Spec PyProof.Rows L2
abbrev sp__law_is_plant : Sp := spLook isPlant
theorem len__law_is_plant {vs H Q E} (h : sp__law_is_plant vs H Q E) : vs.length = 1 := spLook_len h
theorem row2 (d : PyData) : lawRow d [(1, 9), (1, 9)] = isMC d := by
 unfold lawRow isMC
 cases d <;> first | rfl | skip
 rename_i ds
 match ds with
 | [] => rfl
 | [a] => rfl
 | [a, b] => simp
 | a :: b :: c :: r => simp
theorem row3 (d : PyData) : lawRow d [(1, 9), (0, 7), (1, 8)] = isEng d := by
 unfold lawRow isEng
 cases d <;> first | rfl | skip
 rename_i ds
 match ds with
 | [] => rfl
 | [a] => rfl
 | [a, b] => rfl
 | [a, b, c] => simp [Bool.and_assoc]
 | a :: b :: c :: e :: r => simp
theorem rowM (d : PyData) : lawRow d [(0, 40), (0, 40), (0, 40)] = true → ∃ lo hi st : Int, d = .tuple [.int lo, .int hi, .int st] ∧ 0 ≤ lo ∧ lo ≤ 40 ∧ 0 ≤ hi ∧ hi ≤ 40 ∧ 0 ≤ st ∧ st ≤ 40 := by
 intro h
 unfold lawRow at h
 cases d <;> first | cases h | skip
 rename_i ds
 match ds, h with
 | [a, b, c], h =>
  simp only [List.length_cons, List.length_nil, List.zip_cons_cons, List.zip_nil_right, List.all_cons, List.all_nil, Bool.and_true, Bool.and_eq_true] at h
  obtain ⟨_, ha, hb, hc⟩ := h
  cases a <;> first | cases ha | skip
  cases b <;> first | cases hb | skip
  cases c <;> first | cases hc | skip
  simp only [isWF, Bool.and_eq_true, decide_eq_true_eq] at ha hb hc
  exact ⟨_, _, _, rfl, ha.1, ha.2, hb.1, hb.2, hc.1, hc.2⟩
 | [], h => simp at h
 | [a], h => simp at h
 | [a, b], h => simp at h
 | a :: b :: c :: e :: r, h => simp at h
theorem rowM_no (d : PyData) : lawRow d [(0, 40), (0, 40), (0, 40)] = false → isMain d = false := by
 intro h
 cases hm : isMain d with
 | false => rfl
 | true =>
  unfold isMain at hm
  cases d <;> first | cases hm | skip
  rename_i ds
  match ds, hm, h with
  | [a, b, c], hm, h =>
   dsimp only at hm
   cases b <;> first | (simp [isWF] at hm; done) | skip
   rename_i hi
   cases c <;> first | (simp [isWF] at hm; done) | skip
   rename_i st
   cases a <;> first | (simp [isWF] at hm; done) | skip
   rename_i lo
   simp only [isWF, Bool.and_eq_true, decide_eq_true_eq] at hm
   have : lawRow (.tuple [.int lo, .int hi, .int st]) [(0, 40), (0, 40), (0, 40)] = true := by
    simp only [lawRow, isWF, List.length_cons, List.length_nil, List.zip_cons_cons, List.zip_nil_right, List.all_cons, List.all_nil, Bool.and_true, Bool.and_eq_true, decide_eq_true_eq]
    simp; omega
   rw [this] at h; cases h
  | [], hm, _ => cases hm
  | [a], hm, _ => cases hm
  | [a, b], hm, _ => cases hm
  | a :: b :: c :: e :: r, hm, _ => cases hm
theorem mainI (lo hi st : Int) : isMain (.tuple [.int lo, .int hi, .int st]) = (decide (0 ≤ hi) && decide (hi ≤ 40) && (decide (0 ≤ st) && decide (st ≤ hi) && (decide (0 ≤ lo) && decide (lo ≤ st)))) := rfl
theorem sort3 {ns : List Int} {a b c : Int} (h : ns.Perm [a, b, c]) (s : ns.Pairwise (· ≤ ·)) : ns = [a, b, c] ↔ a ≤ b ∧ b ≤ c := by
 constructor
 ·intro e; subst e; simp at s; omega
 ·intro ⟨h1, h2⟩
  have s2 : [a, b, c].Pairwise (· ≤ ·) := by simp; omega
  exact h.eq_of_pairwise (fun x y _ _ h1 h2 => Int.le_antisymm h1 h2) s s2
theorem isPlant_3 (a b c : PyData) : isPlant (.tuple [a, b, c]) = (isBoilers a && isEngines b && isMain c) := rfl
theorem isPlant_not {d : PyData} (h : ∀ a b c, d ≠ .tuple [a, b, c]) : isPlant d = false := by
 unfold isPlant
 cases d <;> first | rfl | skip
 rename_i ds
 match ds, h with
 | [a, b, c], h => exact absurd rfl (h a b c)
 | [], _ => rfl
 | [_], _ => rfl
 | [_, _], _ => rfl
 | _ :: _ :: _ :: _ :: _, _ => rfl
section
variable {P : Program} {w : World} {K : PySem.W.Frag} {mg : Str → Option Value} {base : Heap}
theorem sc__law_is_plant : FnScope ["_law_thing"] ["_law_thing"] (defScope s__law_is_plant) := ⟨rfl, rfl, rfl, by decide +kernel, rfl, by decide +kernel, by decide +kernel⟩
theorem ok__law_is_plant (F : Df K mg "_law_is_plant" s__law_is_plant ["_law_thing"]) (T : Tx mg) (D__law_row : Fn P w K mg base 2 "_law_row" ["_law_thing", "_law_ends"] sp__law_row) : Fn P w K mg base 3 "_law_is_plant" ["_law_thing"] sp__law_is_plant := by
 refine F.fn sc__law_is_plant (fun vs H Q E h => ?_) (fun f cdv A outer s H vs Q E hr h => ?_)
 ·exact len__law_is_plant h
 refine ⟨_, (pss_cons (c_if (PW.pt (c_or (pt_not (c_val (pe_callB call_isi rfl T.b_isinstance boot_isinstance (pb2 (cy 0) (pe_bltn (v := .ty "tuple") rfl T.b_tuple boot_tuple' rfl))))) (c_or (c_cmpT op_ne (pe_callB (lenS K) rfl T.b_len PySem.boot_len (pb1 (cy 0))) pe_int (nomark _)) (pw_or1 (pt_not (c_val (c_call D__law_row (hr.mono (by decide)) rfl (pb2 (pe_ix (ixT K) (cy 0) pe_int (fun _ _ => rfl)) (pe_op op_rep (c_lst (pb1 (c_tup (pb2 pe_int pe_int)))) pe_int))))))))) (pss_one (ps_ret pe_bl)) pss_nil) (pss_cons (c_if (c_cmpT (o_neL hr.units0) (pe_callB call_sorted rfl T.b_sorted boot_sorted (pb1 (c_lst (pb3 (pe_ix (ixT K) (pe_ix (ixT K) (cy 0) pe_int (fun _ _ => rfl)) pe_int (fun _ _ => rfl)) (pe_ix (ixT K) (pe_ix (ixT K) (cy 0) pe_int (fun _ _ => rfl)) pe_int (fun _ _ => rfl)) (pe_ix (ixT K) (pe_ix (ixT K) (cy 0) pe_int (fun _ _ => rfl)) pe_int (fun _ _ => rfl)))))) (c_lst (pb3 (pe_ix (ixT K) (pe_ix (ixT K) (cy 0) pe_int (fun _ _ => rfl)) pe_int (fun _ _ => rfl)) (pe_ix (ixT K) (pe_ix (ixT K) (cy 0) pe_int (fun _ _ => rfl)) pe_int (fun _ _ => rfl)) (pe_ix (ixT K) (pe_ix (ixT K) (cy 0) pe_int (fun _ _ => rfl)) pe_int (fun _ _ => rfl)))) (nomark _)) (pss_one (ps_ret pe_bl)) pss_nil) (pss_cons (c_if (PW.pt (c_or (pt_not (c_val (pe_callB call_isi rfl T.b_isinstance boot_isinstance (pb2 (pe_ix (ixT K) (cy 0) pe_int (fun _ _ => rfl)) (pe_bltn (v := .ty "tuple") rfl T.b_tuple boot_tuple' rfl))))) (c_or (c_cmpT (ninS K) (pe_callB (lenS K) rfl T.b_len PySem.boot_len (pb1 (pe_ix (ixT K) (cy 0) pe_int (fun _ _ => rfl)))) (c_tup (pb4 pe_int pe_int pe_int pe_int)) (by with_unfolding_all rfl)) (pw_or1 (pt_not (c_val (pe_callB call_isi rfl T.b_isinstance boot_isinstance (pb2 (pe_ix (ixT K) (cy 0) pe_int (fun _ _ => rfl)) (pe_bltn (v := .ty "tuple") rfl T.b_tuple boot_tuple' rfl))))))))) (pss_one (ps_ret pe_bl)) pss_nil) (pss_cons (c_if (PW.pt (c_or (c_cmpT o_gt (pe_callB (lenS K) rfl T.b_len PySem.boot_len (pb1 (pe_ix (ixT K) (cy 0) pe_int (fun _ _ => rfl)))) pe_int (nomark _)) (pw_or1 (pt_not (c_val (pe_callB (call_all rfl) rfl T.b_all boot_all (pb1 (pe_comp ["_law_one"] [none] rfl (piT K (pe_ix (ixT K) (cy 0) pe_int (fun _ _ => rfl))) (BlockScope.of rfl) (fun _ _ _ _ => (pgy 0 (nd_of (by rfl)))) (fun _ _ _ _ => pts_nil) (fun _ _ _ _ => (c_call D__law_row (hr.mono (by decide)) rfl (pb2 (cy 0) (c_lst (pb2 (c_tup (pb2 pe_int pe_int)) (c_tup (pb2 pe_int pe_int))))))))))))))) (pss_one (ps_ret pe_bl)) pss_nil) (pss_one (ps_ret (pe_callB (call_all rfl) rfl T.b_all boot_all (pb1 (pe_comp ["_law_one"] [none] rfl (piT K (pe_ix (ixT K) (cy 0) pe_int (fun _ _ => rfl))) (BlockScope.of rfl) (fun _ _ _ _ => (pgy 0 (nd_of (by rfl)))) (fun _ _ _ _ => pts_nil) (fun _ _ _ _ => (c_call D__law_row (hr.mono (by decide)) rfl (pb2 (cy 0) (c_lst (pb3 (c_tup (pb2 pe_int pe_int)) (c_tup (pb2 pe_int pe_int)) (c_tup (pb2 pe_int pe_int)))))))))))))))), ?_⟩
 unfold sp__law_is_plant spLook at h
 split at h
 ·rename_i v
  obtain ⟨p, d, r, q⟩ := h
  refine ⟨_, r.ty, .inr (.inr (.inl rfl)), ⟨fun c => ⟨fun _ => ?_, fun z => by cases z⟩, fun c => ?_⟩⟩
  ·refine q _ _ (isPlant_not ?_).symm (Same.refl _)
   intro a b c' e; subst e; cases c
  cases d <;> first | cases c | skip
  rename_i ds
  obtain ⟨l, xs, rfl, hl, rs⟩ := Rep.shape r
  refine ⟨l, xs, rfl, .inr (SqT.of hl), rfl, ⟨fun c2 => ⟨fun _ => ?_, fun z => by cases z⟩, fun c2 => ?_⟩⟩
  ·refine q _ _ (isPlant_not ?_).symm (Same.refl _)
   intro a b c' e
   injection e with e
   have := rs.len
   rw [e] at this
   rw [← this] at c2; simp at c2
  have hlen : ds.length = 3 := by
   have : V.int (xs.length : Int) = V.int 3 := by simpa using c2
   injection this with z
   have := rs.len; omega
  obtain ⟨da, db, dc, rfl⟩ : ∃ a b c, ds = [a, b, c] := by
   match ds, hlen with
   | [a, b, c], _ => exact ⟨a, b, c, rfl⟩
  obtain ⟨xa, xb, xc, rfl, ra, rb, rc⟩ := Reps.three rs
  refine ⟨l, [xa, xb, xc], 2, xc, rfl, rfl, SqT.of hl, rfl, fun t ht => fun l1 hl1 => ?_⟩
  refine ⟨l1, 3, [.ref t], rfl, rfl, upd_same, by decide, by decide, (by show 3 ≤ sizeLine; decide), fun l2 hl2 => ?_⟩
  have sm : Same H (upd (upd (upd H t (.tup [.int 0, .int 40])) l1 (.lst [.ref t])) l2 (.lst [.ref t, .ref t, .ref t])) := ((Same.new ht).trans (Same.new hl1)).trans (Same.new hl2)
  have ht3 : upd (upd (upd H t (.tup [.int 0, .int 40])) l1 (.lst [.ref t])) l2 (.lst [.ref t, .ref t, .ref t]) t = some (.tup [.int 0, .int 40]) := ((Same.new hl1).trans (Same.new hl2)) _ _ upd_same
  have r40 : Rep p (upd (upd (upd H t (.tup [.int 0, .int 40])) l1 (.lst [.ref t])) l2 (.lst [.ref t, .ref t, .ref t])) (pr (0, 40)) (.ref t) := Rep.tup ht3 (.cons Rep.int (.cons Rep.int .nil))
  refine ⟨p, dc, [.ref t, .ref t, .ref t], [(0, 40), (0, 40), (0, 40)], Rep.ev (Ev.same sm) _ _ rc, upd_same, .cons r40 (.cons r40 (.cons r40 .nil)), by decide, fun b H4 hb s4' => ⟨fun c3 => ?_, fun c3 => ?_⟩⟩
  ·refine q _ _ ?_ (sm.trans s4')
   rw [isPlant_3, rowM_no dc (by rw [← hb]; simpa using c3), Bool.and_false]
  have s4 : Same H H4 := sm.trans s4'
  obtain ⟨lo, hi, st, rfl, m1, m2, m3, m4, m5, m6⟩ := rowM dc (by rw [← hb]; simpa using c3)
  obtain ⟨m, xm, rfl, hm, rm⟩ := Rep.shape rc
  obtain ⟨y1, y2, y3, rfl, e1, e2, e3⟩ := Reps.three rm
  unfold Rep at e1 e2 e3
  subst e1 e2 e3
  have hl4 := s4 _ _ hl
  have hm4 := s4 _ _ hm
  refine ⟨l, _, 2, .ref m, rfl, rfl, SqT.of hl4, rfl, m, _, 0, .int lo, rfl, rfl, SqT.of hm4, rfl, l, _, 2, .ref m, rfl, rfl, SqT.of hl4, rfl, m, _, 2, .int st, rfl, rfl, SqT.of hm4, rfl, l, _, 2, .ref m, rfl, rfl, SqT.of hl4, rfl, m, _, 1, .int hi, rfl, rfl, SqT.of hm4, rfl, fun l3 hl3 => ?_⟩
  refine ⟨l3, [lo, st, hi], rfl, upd_same, (by show 3 < 64; decide), fun l4 ns' hl4' pm pw => ?_⟩
  have s5 : Same H4 (upd (upd H4 l3 (.lst [.int lo, .int st, .int hi])) l4 (.lst (ns'.map V.int))) := (Same.new hl3).trans (Same.new hl4')
  have hl5 := s5 _ _ hl4
  have hm5 := s5 _ _ hm4
  refine ⟨l, _, 2, .ref m, rfl, rfl, SqT.of hl5, rfl, m, _, 0, .int lo, rfl, rfl, SqT.of hm5, rfl, l, _, 2, .ref m, rfl, rfl, SqT.of hl5, rfl, m, _, 2, .int st, rfl, rfl, SqT.of hm5, rfl, l, _, 2, .ref m, rfl, rfl, SqT.of hl5, rfl, m, _, 1, .int hi, rfl, rfl, SqT.of hm5, rfl, fun l5 hl5' => ?_⟩
  refine ⟨l4, l5, ns', [lo, st, hi], rfl, rfl, by rw [upd_ne (ne_of_none upd_same hl5')]; exact upd_same, upd_same, pm.length_eq, ⟨fun c4 => ?_, fun c4 => ?_⟩⟩
  ·refine q _ _ ?_ (s4.trans (s5.trans (Same.new hl5')))
   have : ¬ (lo ≤ st ∧ st ≤ hi) := fun z => by rw [(sort3 pm pw).mpr z] at c4; simp at c4
   rw [isPlant_3, mainI]
   have : (decide (0 ≤ hi) && decide (hi ≤ 40) && (decide (0 ≤ st) && decide (st ≤ hi) && (decide (0 ≤ lo) && decide (lo ≤ st)))) = false := by
    simp only [Bool.and_eq_false_iff, decide_eq_false_iff_not]; omega
   rw [this, Bool.and_false]
  have c5 : lo ≤ st ∧ st ≤ hi := (sort3 pm pw).mp (by simpa using c4)
  have hM : isMain (.tuple [.int lo, .int hi, .int st]) = true := by
   rw [mainI]; simp only [Bool.and_eq_true, decide_eq_true_eq]; omega
  generalize hH6 : upd (upd (upd H4 l3 (.lst [.int lo, .int st, .int hi])) l4 (.lst (ns'.map V.int))) l5 (.lst [.int lo, .int st, .int hi]) = H6
  have s6 : Same H H6 := by rw [← hH6]; exact s4.trans (s5.trans (Same.new hl5'))
  clear hH6
  have hl6 := s6 _ _ hl
  have ra6 := Rep.ev (Ev.same s6) _ _ ra
  have rb6 := Rep.ev (Ev.same s6) _ _ rb
  refine ⟨l, _, 0, xa, rfl, rfl, SqT.of hl6, rfl, _, ra6.ty, .inr (.inr (.inl rfl)), ⟨fun c6 => ⟨fun _ => ?_, fun z => by cases z⟩, fun c6 => ?_⟩⟩
  ·refine q _ _ ?_ s6
   rw [isPlant_3, show isBoilers da = false from (by cases da <;> first | rfl | cases c6), Bool.false_and, Bool.false_and]
  cases da <;> first | cases c6 | skip
  rename_i bs
  obtain ⟨la, xas, rfl, hla, rba⟩ := Rep.shape ra6
  have lba := rba.len
  refine ⟨l, _, 0, .ref la, rfl, rfl, SqT.of hl6, rfl, la, xas, rfl, .inr (SqT.of hla), fun t4 ht4 => ⟨t4, _, rfl, .inr (SqT.of upd_same), rfl, rfl, ⟨fun c7 => ⟨fun _ => ?_, fun z => by cases z⟩, fun c7 => ?_⟩⟩⟩
  ·refine q _ _ ?_ (s6.trans (Same.new ht4))
   have z : isTO (.tuple bs) 1 4 = false := by
    unfold isTO; dsimp only
    simp only [inV, eqV, List.any_cons, List.any_nil, Bool.or_false, if_true, Bool.not_eq_true', Bool.or_eq_false_iff, beq_eq_false_iff_ne] at c7
    simp only [Bool.and_eq_false_iff, decide_eq_false_iff_not]; omega
   rw [isPlant_3, show isBoilers (.tuple bs) = false from by unfold isBoilers; dsimp only; rw [z]; rfl, Bool.false_and, Bool.false_and]
  have hTO : isTO (.tuple bs) 1 4 = true := by
   unfold isTO; dsimp only
   simp only [inV, eqV, List.any_cons, List.any_nil, Bool.or_false, if_true, Bool.not_eq_false', Bool.or_eq_true, beq_iff_eq] at c7
   simp only [Bool.and_eq_true, decide_eq_true_eq]; omega
  have hb4 : bs.length ≤ 4 := by have := hTO; unfold isTO at this; simp only [Bool.and_eq_true, decide_eq_true_eq] at this; omega
  generalize hH7 : upd H6 t4 (.tup [.int 1, .int 2, .int 3, .int 4]) = H7
  have s67 : Same H6 H7 := by rw [← hH7]; exact Same.new ht4
  clear hH7
  have s7 := s6.trans s67
  have hl7 := s7 _ _ hl
  have rb7 := Rep.ev (Ev.same s67) _ _ rb6
  refine ⟨l, _, 1, xb, rfl, rfl, SqT.of hl7, rfl, _, rb7.ty, .inr (.inr (.inl rfl)), ⟨fun c8 => ?_, fun c8 => ?_⟩⟩
  ·refine q _ _ ?_ s7
   rw [isPlant_3, show isEngines db = false from (by cases db <;> first | rfl | cases c8), Bool.and_false, Bool.false_and]
  cases db <;> first | cases c8 | skip
  rename_i es
  obtain ⟨lb, xbs, rfl, hlb, rbb⟩ := Rep.shape rb7
  have lbb := rbb.len
  have hla7 := s67 _ _ hla
  have rba7 := Reps.ev (Ev.same s67) _ _ rba
  refine ⟨l, _, 1, .ref lb, rfl, rfl, SqT.of hl7, rfl, lb, xbs, rfl, .inr (SqT.of hlb), ⟨fun c9 => ⟨fun _ => ?_, fun z => by cases z⟩, fun c9 => ?_⟩⟩
  ·refine q _ _ ?_ s7
   have z : isTO (.tuple es) 0 4 = false := by
    unfold isTO; dsimp only
    have := of_decide_eq_true c9
    simp only [Bool.and_eq_false_iff, decide_eq_false_iff_not]; omega
   rw [isPlant_3, show isEngines (.tuple es) = false from by unfold isEngines; dsimp only; rw [z]; rfl, Bool.and_false, Bool.false_and]
  have hTE : isTO (.tuple es) 0 4 = true := by
   unfold isTO; dsimp only
   have := of_decide_eq_false c9
   simp only [Bool.and_eq_true, decide_eq_true_eq]; omega
  have he4 : es.length ≤ 4 := by have := hTE; unfold isTO at this; simp only [Bool.and_eq_true, decide_eq_true_eq] at this; omega
  refine ⟨l, _, 0, .ref la, rfl, rfl, SqT.of hl7, rfl, la, rfl, ⟨xas, SqT.of hla7⟩, walk_tup (xs := xas) (fun i ys H' => Same H7 H' ∧ ys = (bs.take i).map fun d => V.bl (isMC d)) (by omega) ⟨Same.refl _, rfl⟩ (fun i ys H' h => by rw [h.2, List.length_map, List.length_take]; omega) (fun i ys H' _ h => SqT.of (h.1 _ _ hla7)) (fun i x ys H' hx h => ?_) fun ys H8 h => ?_⟩
  ·obtain ⟨d, hd, rd⟩ := rba7.got hx
   refine ⟨trivial, fun _ => ?_, fun z => by cases z⟩
   intro u0 hu0 u1 hu1 ul hul
   have sm8 : Same H' (upd (upd (upd H' u0 (.tup [.int 1, .int 9])) u1 (.tup [.int 1, .int 9])) ul (.lst [.ref u0, .ref u1])) := ((Same.new hu0).trans (Same.new hu1)).trans (Same.new hul)
   have k0 : (upd (upd (upd H' u0 (.tup [.int 1, .int 9])) u1 (.tup [.int 1, .int 9])) ul (.lst [.ref u0, .ref u1])) u0 = some (.tup [.int 1, .int 9]) := ((Same.new hu1).trans (Same.new hul)) _ _ upd_same
   have k1 : (upd (upd (upd H' u0 (.tup [.int 1, .int 9])) u1 (.tup [.int 1, .int 9])) ul (.lst [.ref u0, .ref u1])) u1 = some (.tup [.int 1, .int 9]) := (Same.new hul) _ _ upd_same
   refine ⟨p, d, _, [(1, 9), (1, 9)], Rep.ev (Ev.same (h.1.trans sm8)) _ _ rd, upd_same, (.cons (Rep.tup k0 (.cons Rep.int (.cons Rep.int .nil))) (.cons (Rep.tup k1 (.cons Rep.int (.cons Rep.int .nil))) .nil)), by decide, fun b H2 e s2 => ⟨h.1.trans (sm8.trans s2), ?_⟩⟩
   rw [h.2, e, take_map _ hd, row2]
  ·intro mm hmm
   refine ⟨mm, bs.map isMC, rfl, ?_, ?_⟩
   ·rw [upd_same, h.2, ← lba, List.take_length, List.map_map]; rfl
   have s8 : Same H7 (upd H8 mm (.lst ys)) := h.1.trans (Same.new hmm)
   generalize upd H8 mm (.lst ys) = H9 at s8
   have hB : isBoilers (.tuple bs) = (bs.map isMC).all id := by unfold isBoilers; dsimp only; rw [hTO, List.all_map, Bool.true_and]; rfl
   refine ⟨fun c10 => ?_, fun c10 => ?_⟩
   ·refine q _ _ ?_ (s7.trans s8)
    rw [isPlant_3, hB, show (bs.map isMC).all id = false from by simpa using c10, Bool.false_and, Bool.false_and]
   have hB' : isBoilers (.tuple bs) = true := by rw [hB]; simpa using c10
   have hl9 := s8 _ _ hl7
   have hlb9 := s8 _ _ hlb
   have rbb9 := Reps.ev (Ev.same s8) _ _ rbb
   refine ⟨l, _, 1, .ref lb, rfl, rfl, SqT.of hl9, rfl, lb, rfl, ⟨xbs, SqT.of hlb9⟩, walk_tup (xs := xbs) (fun i ys H' => Same H9 H' ∧ ys = (es.take i).map fun d => V.bl (isEng d)) (by omega) ⟨Same.refl _, rfl⟩ (fun i ys H' h => by rw [h.2, List.length_map, List.length_take]; omega) (fun i ys H' _ h => SqT.of (h.1 _ _ hlb9)) (fun i x ys H' hx h => ?_) fun ys H10 h => ?_⟩
   ·obtain ⟨d, hd, rd⟩ := rbb9.got hx
    refine ⟨trivial, fun _ => ?_, fun z => by cases z⟩
    intro u0 hu0 u1 hu1 u2 hu2 ul hul
    have sm8 : Same H' (upd (upd (upd (upd H' u0 (.tup [.int 1, .int 9])) u1 (.tup [.int 0, .int 7])) u2 (.tup [.int 1, .int 8])) ul (.lst [.ref u0, .ref u1, .ref u2])) := (((Same.new hu0).trans (Same.new hu1)).trans (Same.new hu2)).trans (Same.new hul)
    have k0 : (upd (upd (upd (upd H' u0 (.tup [.int 1, .int 9])) u1 (.tup [.int 0, .int 7])) u2 (.tup [.int 1, .int 8])) ul (.lst [.ref u0, .ref u1, .ref u2])) u0 = some (.tup [.int 1, .int 9]) := ((Same.new hu1).trans ((Same.new hu2).trans (Same.new hul))) _ _ upd_same
    have k1 : (upd (upd (upd (upd H' u0 (.tup [.int 1, .int 9])) u1 (.tup [.int 0, .int 7])) u2 (.tup [.int 1, .int 8])) ul (.lst [.ref u0, .ref u1, .ref u2])) u1 = some (.tup [.int 0, .int 7]) := ((Same.new hu2).trans (Same.new hul)) _ _ upd_same
    have k2 : (upd (upd (upd (upd H' u0 (.tup [.int 1, .int 9])) u1 (.tup [.int 0, .int 7])) u2 (.tup [.int 1, .int 8])) ul (.lst [.ref u0, .ref u1, .ref u2])) u2 = some (.tup [.int 1, .int 8]) := (Same.new hul) _ _ upd_same
    refine ⟨p, d, _, [(1, 9), (0, 7), (1, 8)], Rep.ev (Ev.same (h.1.trans sm8)) _ _ rd, upd_same, (.cons (Rep.tup k0 (.cons Rep.int (.cons Rep.int .nil))) (.cons (Rep.tup k1 (.cons Rep.int (.cons Rep.int .nil))) (.cons (Rep.tup k2 (.cons Rep.int (.cons Rep.int .nil))) .nil))), by decide, fun b H2 e s2 => ⟨h.1.trans (sm8.trans s2), ?_⟩⟩
    rw [h.2, e, take_map _ hd, row3]
   ·intro mm2 hmm2
    refine ⟨mm2, es.map isEng, rfl, ?_, ?_⟩
    ·rw [upd_same, h.2, ← lbb, List.take_length, List.map_map]; rfl
    refine q _ _ ?_ (s7.trans (s8.trans (h.1.trans (Same.new hmm2))))
    rw [isPlant_3, hB', hM, show isEngines (.tuple es) = (es.map isEng).all id from by unfold isEngines; dsimp only; rw [hTE, List.all_map, Bool.true_and]; rfl, Bool.true_and, Bool.and_true]
 ·exact h.elim
end
end MF

end

section
namespace MF
open PySem PySem.Spec PyProof.Rows L2
theorem c_neg1 {X : Cx} {j : Nat} {p q : Pos} : PE X (.UnaryOp .USub (.Constant (.int 1) j p) q) (tC (.int (-1))) := (pe_un un_neg pe_int).weak fun σ H Q h => ⟨1, rfl, h⟩
theorem pickV {xs : List V} {g : Int} (h0 : 0 ≤ g) (h1 : g < xs.length) : ∃ (j : Nat) (v : V), xs[j]? = some v ∧ atI xs g = some v := by
 have hk : g.toNat < xs.length := by omega
 have e : g = ((g.toNat : Nat) : Int) := by omega
 refine ⟨g.toNat, xs[g.toNat], by simp [hk], ?_⟩
 have q : atI xs ((g.toNat : Nat) : Int) = some xs[g.toNat] := atI_nat (by simp [hk])
 rw [← e] at q
 exact q
theorem pickD {p : Addr} {H : Hp} {ds : List PyData} {xs : List V} {g : Int} (r : Reps p H ds xs) (h0 : 0 ≤ g) (h1 : g < xs.length) : ∃ v d, atI xs g = some v ∧ d ∈ ds ∧ Rep p H d v := by
 obtain ⟨j, v, hj, hv⟩ := pickV h0 h1
 obtain ⟨d, hd, rd⟩ := r.got hj
 exact ⟨v, d, hv, List.mem_of_getElem? hd, rd⟩
def oddDs : List PyData := [.none, .bool true, .int 7, .str "0", .str "", .list [], .dict [], .tuple [], .tuple [.int 0], .int (-1), .tuple [.int 0, .int 0], .list [.int 0], .bool false, .tuple [.tuple []], .tuple [.tuple [.int 0], .tuple []], .int 41, .int (10 ^ 30)]
theorem odd_nice : ∀ d ∈ oddDs, Nice d := by
 intro d hd
 unfold oddDs at hd
 simp only [List.mem_cons, List.not_mem_nil, or_false] at hd
 rcases hd with rfl | rfl | rfl | rfl | rfl | rfl | rfl | rfl | rfl | rfl | rfl | rfl | rfl | rfl | rfl | rfl | rfl <;> exact ⟨by decide +kernel, by decide, by first | exact .inl rfl | exact .inr rfl⟩
def sp__law_odd : Sp := fun vs H Q _ => match vs with | [.ref p] => Pen p H ∧ ∀ v H' d, Rep p H' d v → Nice d → Ev p H H' → Pen p H' → Q v H' | _ => False
section
variable {P : Program} {w : World} {K : PySem.W.Frag} {mg : Str → Option Value} {base : Heap}
theorem sc__law_odd : FnScope ["_law_pen_here", "_law_some"] ["_law_pen_here"] (defScope s__law_odd) := ⟨rfl, rfl, rfl, by decide +kernel, rfl, by decide +kernel, by decide +kernel⟩
theorem ok__law_odd (F : Df K mg "_law_odd" s__law_odd ["_law_pen_here"]) (T : Tx mg) (D__law_draw : Fn P w K mg base 1 "_law_draw" ["_law_pen_here", "_law_many"] sp__law_draw) : Fn P w K mg base 2 "_law_odd" ["_law_pen_here"] sp__law_odd := by
 refine F.fn sc__law_odd (fun vs H Q E h => ?_) (fun f cdv A outer s H vs Q E hr h => ?_)
 ·unfold sp__law_odd at h; split at h; rfl; exact h.elim
 refine ⟨_, (@pss_cons _ _ _ _ _ (@ps_set _ _ (1) _ _ _ _ sc__law_odd.nd rfl (loc_of (by rfl)) (@pe_dat _ (.list [.none, .bool true, .int 7, .str "0", .str "", .list [], .dict [], .tuple [], .tuple [.int 0], .int (-1), .tuple [.int 0, .int 0], .list [.int 0], .bool false, .tuple [.tuple []], .tuple [.tuple [.int 0], .tuple []], .int 41, .int (10 ^ 30)]) _ (by decide +kernel)) (by rfl) (fl_of (by rfl))) (@pss_one _ _ _ (@ps_ret _ _ _ _ (@pe_ix _ _ _ _ _ _ _ (@ixL _ K (by rfl)) (@cx _ 1 _ _ (by rfl)) (@c_call _ _ _ _ _ _ _ _ _ _ D__law_draw (hr.mono (by decide)) rfl (@pa2 _ _ _ _ _ (@cx _ 0 _ _ (by rfl)) (@pe_int _ _ _ _) (by rfl)) (by decide) (by rfl) (by rfl)) (fun _ _ => rfl))))), ?_⟩
 unfold sp__law_odd at h
 split at h
 ·rename_i p
  obtain ⟨pn, q⟩ := h
  intro v H1 s1 r1
  have rp := r1 p (by obtain ⟨l, f, e⟩ := pn; rw [e]; intro z; cases z)
  unfold Rep at rp
  obtain ⟨aL, xs, rfl, nL, kL, rL⟩ := rp
  have hlen : 17 = xs.length := rL.len
  refine ⟨pn.same s1, by decide, by decide, fun g H2 h0 h1 e1 pn2 => ?_⟩
  obtain ⟨v, d, hat, hd, rd⟩ := pickD (Reps.ev e1 _ _ rL) h0 (by omega)
  exact ⟨aL, _, g, v, rfl, rfl, SqL.of (e1.lst kL nL), hat, q v H2 d rd (odd_nice d hd) ((Ev.same s1).trans e1) pn2⟩
 ·exact h.elim
end
end MF

end

section
namespace MF
open PySem PySem.Spec PyProof.Rows L2
def dOf : V → PyData | .int i => .int i | .bl b => .bool b | .str x => .str x | _ => .none
def IsSc (v : V) : Prop := (∃ i : Int, v = .int i ∧ i.natAbs < 10 ^ 6) ∨ (∃ b, v = .bl b) ∨ v = .non ∨ v = .str "1"
theorem IsSc.rep {v : V} {p : Addr} {H : Hp} (h : IsSc v) : Rep p H (dOf v) v := by
 rcases h with ⟨i, rfl, _⟩ | ⟨b, rfl⟩ | rfl | rfl
 ·exact Rep.int
 ·exact Rep.bl
 ·exact Rep.non
 ·exact Rep.str
theorem IsSc.small {v : V} (h : IsSc v) : Small 40 0 (dOf v) := by
 rcases h with ⟨i, rfl, hi⟩ | ⟨b, rfl⟩ | rfl | rfl
 ·refine ⟨?_, Nat.le_refl 0, rfl⟩
  show wide (.int i) ≤ 40
  unfold wide
  rw [if_pos (Nat.lt_trans hi (by decide))]
  exact Nat.le_refl _
 ·exact ⟨by show wide (.bool b) ≤ 40; cases b <;> (unfold wide; decide), Nat.le_refl 0, rfl⟩
 ·exact ⟨by show wide .none ≤ 40; unfold wide; decide, Nat.le_refl 0, rfl⟩
 ·exact ⟨by show wide (.str "1") ≤ 40; decide +kernel, Nat.le_refl 0, rfl⟩
theorem sc_reps {p : Addr} {H : Hp} : ∀ {xs : List V}, (∀ v ∈ xs, IsSc v) → Reps p H (xs.map dOf) xs
 | [], _ => .nil
 | v :: xs, h => .cons (h v List.mem_cons_self).rep (sc_reps fun x hx => h x (List.mem_cons_of_mem _ hx))
theorem sc_small {xs : List V} (h : ∀ v ∈ xs, IsSc v) : ∀ d ∈ xs.map dOf, Small 40 0 d := fun d hd => by
 obtain ⟨v, hv, rfl⟩ := List.mem_map.mp hd
 exact (h v hv).small
theorem cut_mem {xs : List V} {lo hi : Option Int} {v : V} (h : v ∈ cutV xs lo hi) : v ∈ xs := by unfold cutV at h; exact List.mem_of_mem_drop (List.mem_of_mem_take h)
theorem scT {p a : Addr} {H : Hp} {xs : List V} (h : ∀ v ∈ xs, IsSc v) (hl : xs.length ≤ 21) (ha : H a = some (.tup xs)) : ∃ d, Rep p H d (.ref a) ∧ Small 1000 1 d :=
 ⟨_, Rep.tup ha (sc_reps h), small_tup (sc_small h) (by rw [List.length_map]; omega)⟩
theorem scL {p a : Addr} {H : Hp} {xs : List V} (h : ∀ v ∈ xs, IsSc v) (hl : xs.length ≤ 21) (n : a ≠ p) (ha : H a = some (.lst xs)) : ∃ d, Rep p H d (.ref a) ∧ Small 1000 1 d :=
 ⟨_, Rep.lst n ha (sc_reps h), small_lst (sc_small h) (by rw [List.length_map]; omega)⟩
def sp__law_bent_row : Sp := fun vs H Q _ => match vs with
 | [.ref p, .ref r] => Pen p H ∧ ∃ ns : List Int, H r = some (.tup (ns.map V.int)) ∧ 1 ≤ ns.length ∧ ns.length ≤ 10 ∧ (∀ n ∈ ns, n.natAbs ≤ 1000) ∧ ∀ v H' d, Rep p H' d v → Small 1000 1 d → Ev p H H' → Pen p H' → Q v H'
 | _ => False
section
variable {P : Program} {w : World} {K : PySem.W.Frag} {mg : Str → Option Value} {base : Heap}
theorem sc__law_bent_row : FnScope ["_law_pen_here", "_law_row_here", "_law_at", "_law_odd_here", "_law_rows"] ["_law_pen_here", "_law_row_here"] (defScope s__law_bent_row) := ⟨rfl, rfl, rfl, by decide +kernel, rfl, by decide +kernel, by decide +kernel⟩
theorem ok__law_bent_row (F : Df K mg "_law_bent_row" s__law_bent_row ["_law_pen_here", "_law_row_here"]) (T : Tx mg) (D__law_draw : Fn P w K mg base 1 "_law_draw" ["_law_pen_here", "_law_many"] sp__law_draw) : Fn P w K mg base 2 "_law_bent_row" ["_law_pen_here", "_law_row_here"] sp__law_bent_row := by
 refine F.fn sc__law_bent_row (fun vs H Q E h => ?_) (fun f cdv A outer s H vs Q E hr h => ?_)
 ·unfold sp__law_bent_row at h; split at h; rfl; exact h.elim
 refine ⟨_, (pss_cons (ps_set (i := 2) sc__law_bent_row.nd rfl (loc_of (by rfl)) (c_call D__law_draw (hr.mono (by decide)) rfl (pb2 (cy 0) (pe_callB (lenS K) rfl T.b_len PySem.boot_len (pb1 (cy 1)))))) (pss_cons (ps_set (i := 3) sc__law_bent_row.nd rfl (loc_of (by rfl)) (pe_ix (ixL K) (c_lst (pa_cons (pe_op o_add (pe_ix (ixT K) (cy 1) (cy 2) (fun _ _ => rfl)) pe_int) (pa_cons (pe_op o_sub (pe_ix (ixT K) (cy 1) (cy 2) (fun _ _ => rfl)) pe_int) (pa_cons pe_int (pa_cons pe_int (pa_cons pe_int (pa_cons pe_int (pa_cons pe_int (pa_cons pe_int (pb4 (pe_un un_neg pe_int) pe_bl pe_non pe_str)))))))))) (c_call D__law_draw (hr.mono (by decide)) rfl (pb2 (cy 0) pe_int)) (fun _ _ => rfl))) (pss_cons (ps_set (i := 4) sc__law_bent_row.nd rfl (loc_of (by rfl)) (c_lst (pa_cons (pe_op o_catT (pe_op o_catT (pe_slice s_tup (cy 1) po_none (po_some (cy 2))) (c_tup (pb1 (cy 3)))) (pe_slice s_tup (cy 1) (po_some (pe_op o_add (cy 2) pe_int)) po_none)) (pa_cons (pe_op o_catT (pe_slice s_tup (cy 1) po_none (po_some (cy 2))) (pe_slice s_tup (cy 1) (po_some (pe_op o_add (cy 2) pe_int)) po_none)) (pb4 (pe_op o_catT (cy 1) (c_tup (pb1 pe_int))) (pe_callTy (lstOf K) rfl T.b_list boot_list' (pb1 (cy 1))) (c_rev (cy 1) (c_neg1)) (cy 3)))))) (pss_one (ps_ret (pe_ix (ixL K) (cy 4) (pe_ix (ixL K) (c_lst (pa_cons pe_int (pa_cons pe_int (pa_cons pe_int (pa_cons pe_int (pa_cons pe_int (pb4 pe_int pe_int pe_int pe_int))))))) (c_call D__law_draw (hr.mono (by decide)) rfl (pb2 (cy 0) pe_int)) (fun _ _ => rfl)) (fun _ _ => rfl))))))), ?_⟩
 unfold sp__law_bent_row at h
 split at h
 ·rename_i p r
  obtain ⟨pn, ns, hr0, hl1, hl10, hns, q⟩ := h
  refine ⟨r, _, rfl, .inr (SqT.of hr0), pn, by rw [List.length_map]; omega, by rw [List.length_map]; omega, fun ix H1 a0 a1 e1 pn1 => ?_⟩
  rw [List.length_map] at a1
  obtain ⟨n, hn, hat⟩ := pick a0 a1
  have hn' := hns n hn
  have hr1 := e1.tup hr0
  refine ⟨r, _, ix, .int n, rfl, rfl, SqT.of hr1, hat, r, _, ix, .int n, rfl, rfl, SqT.of hr1, hat, 1, rfl, fun l1 hl1' => ⟨pn1.new hl1', by decide, by decide, fun g H2 b0 b1 e2 pn2 => ?_⟩⟩
  obtain ⟨j, o, hj, hat2⟩ := pickV (xs := [.int (n + 1), .int (n - 1), .int 0, .int 9, .int 10, .int 8, .int 40, .int 41, .int (-1), .bl true, .non, .str "1"]) b0 (by simpa using b1)
  have hsc : IsSc o := by
   have hm := List.mem_of_getElem? hj
   simp only [List.mem_cons, List.not_mem_nil, or_false] at hm
   rcases hm with rfl | rfl | rfl | rfl | rfl | rfl | rfl | rfl | rfl | rfl | rfl | rfl
   all_goals first | exact .inl ⟨_, rfl, by omega⟩ | exact .inr (.inl ⟨_, rfl⟩) | exact .inr (.inr (.inl rfl)) | exact .inr (.inr (.inr rfl))
  have scn : ∀ v ∈ ns.map V.int, IsSc v := fun v hv => by
   obtain ⟨m, hm, rfl⟩ := List.mem_map.mp hv
   exact .inl ⟨m, rfl, by have := hns m hm; omega⟩
  refine ⟨l1, _, g, o, rfl, rfl, SqL.of (e2.lst upd_same (pn1.ne hl1')), hat2, ?_⟩
  have hr2 := e2.tup ((Ev.new (p := p) hl1').tup hr1)
  have hln : (ns.map V.int).length ≤ 10 := by rw [List.length_map]; exact hl10
  have cl : ∀ lo hi, (cutV (ns.map V.int) lo hi).length ≤ 10 := fun lo hi => Nat.le_trans (cutV_length _ _ _) hln
  refine ⟨ix, rfl, r, _, rfl, hr2, fun s1 H3 q1 k1 t1 ht1 => ?_⟩
  refine ⟨s1, t1, _, _, rfl, rfl, (Same.new ht1) _ _ k1, upd_same, by have := cl none (some ix); rw [List.length_singleton]; omega, fun c1 H4 q2 k2 => ?_⟩
  have hr4 := q2 _ _ ((Same.new ht1) _ _ (q1 _ _ hr2))
  refine ⟨ix + 1, rfl, r, _, rfl, hr4, fun s2 H5 q3 k3 => ?_⟩
  refine ⟨c1, s2, _, _, rfl, rfl, q3 _ _ k2, k3, by have := cl none (some ix); have := cl (some (ix + 1)) none; rw [List.length_append, List.length_singleton]; omega, fun c2 H6 q4 k4 => ?_⟩
  have s26 : Same H2 H6 := (q1.trans (Same.new ht1)).trans (q2.trans (q3.trans q4))
  have hr6 := s26 _ _ hr2
  refine ⟨ix, rfl, r, _, rfl, hr6, fun s3 H7 q5 k5 => ?_⟩
  have hr7 := q5 _ _ hr6
  refine ⟨ix + 1, rfl, r, _, rfl, hr7, fun s4 H8 q6 k6 => ?_⟩
  refine ⟨s3, s4, _, _, rfl, rfl, q6 _ _ k5, k6, by have := cl none (some ix); have := cl (some (ix + 1)) none; omega, fun c3 H9 q7 k7 => ?_⟩
  have hr9 := q7 _ _ (q6 _ _ hr7)
  refine fun t2 ht2 => ⟨r, t2, _, _, rfl, rfl, (Same.new ht2) _ _ hr9, upd_same, by rw [List.length_singleton]; omega, fun c4 H10 q8 k8 => ?_⟩
  have hr10 := q8 _ _ ((Same.new ht2) _ _ hr9)
  refine ⟨r, _, rfl, .inr (SqT.of hr10), fun m1 hm1 => ?_⟩
  have hr11 := (Same.new (o := .lst (ns.map V.int)) hm1) _ _ hr10
  refine ⟨r, _, rfl, hr11, fun c5 H12 q9 k9 L hL => ?_⟩
  -- all that stands behind
  have s6c : Same H6 H9 := q5.trans (q6.trans q7)
  have s9 : Same H9 H10 := (Same.new ht2).trans q8
  have s10 : Same H10 (upd H12 L (.lst [.ref c2, .ref c3, .ref c4, .ref m1, .ref c5, o])) := (Same.new hm1).trans (q9.trans (Same.new hL))
  have pn12 : Pen p (upd H12 L (.lst [.ref c2, .ref c3, .ref c4, .ref m1, .ref c5, o])) := pn2.same (s26.trans (s6c.trans (s9.trans s10)))
  have f0 := (s6c.trans (s9.trans s10)) _ _ k4
  have f1 := (s9.trans s10) _ _ k7
  have f2 := s10 _ _ k8
  have f3 := (q9.trans (Same.new (o := .lst [.ref c2, .ref c3, .ref c4, .ref m1, .ref c5, o]) hL)) _ _ (upd_same (H := H10) (a := m1) (o := .lst (ns.map V.int)))
  have f4 := (Same.new (o := .lst [.ref c2, .ref c3, .ref c4, .ref m1, .ref c5, o]) hL) _ _ k9
  have nm : m1 ≠ p := (pn2.same (s26.trans (s6c.trans s9))).ne hm1
  have nL : L ≠ p := ((pn2.same (s26.trans (s6c.trans s9))).same ((Same.new hm1).trans q9)).ne hL
  obtain ⟨d0, r0, sm0⟩ := scT (p := p) (fun v hv => by
   rcases List.mem_append.mp hv with h | h
   ·rcases List.mem_append.mp h with h | h
    ·exact scn v (cut_mem h)
    ·rw [List.mem_singleton.mp h]; exact hsc
   ·exact scn v (cut_mem h)) (by have := cl none (some ix); have := cl (some (ix + 1)) none; rw [List.length_append, List.length_append, List.length_singleton]; omega) f0
  obtain ⟨d1, r1, sm1⟩ := scT (p := p) (fun v hv => by
   rcases List.mem_append.mp hv with h | h
   ·exact scn v (cut_mem h)
   ·exact scn v (cut_mem h)) (by have := cl none (some ix); have := cl (some (ix + 1)) none; rw [List.length_append]; omega) f1
  obtain ⟨d2, r2, sm2⟩ := scT (p := p) (fun v hv => by
   rcases List.mem_append.mp hv with h | h
   ·exact scn v h
   ·rw [List.mem_singleton.mp h]; exact .inl ⟨1, rfl, by decide⟩) (by rw [List.length_append, List.length_singleton]; omega) f2
  obtain ⟨d3, r3, sm3⟩ := scL (p := p) scn (by omega) nm f3
  obtain ⟨d4, r4, sm4⟩ := scT (p := p) (fun v hv => scn v (List.mem_reverse.mp hv)) (by rw [List.length_reverse]; omega) f4
  have rr : Reps p (upd H12 L (.lst [.ref c2, .ref c3, .ref c4, .ref m1, .ref c5, o])) [d0, d1, d2, d3, d4, dOf o] [.ref c2, .ref c3, .ref c4, .ref m1, .ref c5, o] := .cons r0 (.cons r1 (.cons r2 (.cons r3 (.cons r4 (.cons hsc.rep .nil)))))
  intro l3 hl3
  refine ⟨pn12.new hl3, by decide, by decide, fun g3 H13 a3 b3 e3 pn13 => ?_⟩
  obtain ⟨k, hk, hat3⟩ := pick (ns := [0, 0, 0, 0, 1, 2, 3, 4, 5]) a3 (by simpa using b3)
  have hk' : 0 ≤ k ∧ k < 6 := by simp only [List.mem_cons, List.not_mem_nil, or_false] at hk; omega
  have ev13 : Ev p (upd H12 L (.lst [.ref c2, .ref c3, .ref c4, .ref m1, .ref c5, o])) H13 := (Ev.new hl3).trans e3
  obtain ⟨v, d, hat4, hd, rd⟩ := pickD (Reps.ev ev13 _ _ rr) hk'.1 (by simpa using hk'.2)
  refine ⟨l3, _, g3, .int k, rfl, rfl, SqL.of (e3.lst upd_same (pn12.ne hl3)), hat3, L, _, k, v, rfl, rfl, SqL.of (ev13.lst upd_same nL), hat4, ?_⟩
  refine q v H13 d rd ?_ (e1.trans ((Ev.new hl1').trans (e2.trans ((Ev.same (s26.trans (s6c.trans (s9.trans s10)))).trans ev13)))) pn13
  simp only [List.mem_cons, List.not_mem_nil, or_false] at hd
  rcases hd with rfl | rfl | rfl | rfl | rfl | rfl
  ·exact sm0
  ·exact sm1
  ·exact sm2
  ·exact sm3
  ·exact sm4
  ·exact hsc.small.mono (by decide) (by decide)
 ·exact h.elim
end
end MF

end

section
namespace MF
open PySem PySem.Spec PyProof.Rows L2
theorem goodB_small {d : PyData} (h : GoodB d) : Small 1000 1 d := by
 obtain ⟨m, c, rfl, h1, h2, h3, h4⟩ := h
 refine (small_tup (n := 40) (k := 0) (m := 200) (fun d hd => ?_) (by simp)).mono (by decide) (Nat.le_refl _)
 simp only [List.mem_cons, List.not_mem_nil, or_false] at hd
 rcases hd with rfl | rfl <;> exact IsSc.small (v := .int _) (.inl ⟨_, rfl, by omega⟩)
theorem goodE_small {d : PyData} (h : GoodE d) : Small 1000 1 d := by
 obtain ⟨m, c, e, rfl, h1, h2, h3, h4, h5, h6⟩ := h
 refine (small_tup (n := 40) (k := 0) (m := 200) (fun d hd => ?_) (by simp)).mono (by decide) (Nat.le_refl _)
 simp only [List.mem_cons, List.not_mem_nil, or_false] at hd
 rcases hd with rfl | rfl | rfl <;> exact IsSc.small (v := .int _) (.inl ⟨_, rfl, by omega⟩)
theorem ints3_small {a b c : Int} (h1 : a.natAbs < 1000) (h2 : b.natAbs < 1000) (h3 : c.natAbs < 1000) : Small 1000 1 (.tuple [.int a, .int b, .int c]) := by
 refine (small_tup (n := 40) (k := 0) (m := 200) (fun d hd => ?_) (by simp)).mono (by decide) (Nat.le_refl _)
 simp only [List.mem_cons, List.not_mem_nil, or_false] at hd
 rcases hd with rfl | rfl | rfl <;> exact IsSc.small (v := .int _) (.inl ⟨_, rfl, by omega⟩)
theorem sT {ds : List PyData} (h : ∀ d ∈ ds, Small 1000 1 d) (hl : ds.length ≤ 10) : Small 11000 2 (.tuple ds) := small_tup h (by omega)
theorem sL {ds : List PyData} (h : ∀ d ∈ ds, Small 1000 1 d) (hl : ds.length ≤ 10) : Small 11000 2 (.list ds) := small_lst h (by omega)
theorem niceT {ds : List PyData} (h : ∀ d ∈ ds, Small 11000 2 d) (hl : ds.length ≤ 10) : Nice (.tuple ds) := (small_tup (m := 200000) h (by omega)).nice (by decide) (by decide)
theorem niceL {ds : List PyData} (h : ∀ d ∈ ds, Small 11000 2 d) (hl : ds.length ≤ 10) : Nice (.list ds) := (small_lst (m := 200000) h (by omega)).nice (by decide) (by decide)
theorem nice3 {a b c : PyData} (ha : Small 11000 2 a) (hb : Small 11000 2 b) (hc : Small 11000 2 c) : Nice (.tuple [a, b, c]) := niceT (fun d hd => by
 simp only [List.mem_cons, List.not_mem_nil, or_false] at hd
 rcases hd with rfl | rfl | rfl
 ·exact ha
 ·exact hb
 ·exact hc) (by simp)
theorem _root_.L2.Reps.cut {p : Addr} {H : Hp} {lo hi : Option Int} {ds : List PyData} {xs : List V} (r : Reps p H ds xs) : ∃ ds', Reps p H ds' (cutV xs lo hi) ∧ (∀ d ∈ ds', d ∈ ds) ∧ ds'.length ≤ ds.length := by
 have hd : ∀ (n : Nat) {ds : List PyData} {xs : List V}, Reps p H ds xs → Reps p H (ds.drop n) (xs.drop n) := fun n => by
  induction n with
  | zero => intro ds xs r; exact r
  | succ n ih =>
   intro ds xs r
   cases ds with
   | nil => unfold Reps at r; subst r; exact .nil
   | cons d ds => unfold Reps at r; obtain ⟨x, t, rfl, _, z⟩ := r; exact ih z
 have ht : ∀ (n : Nat) {ds : List PyData} {xs : List V}, Reps p H ds xs → Reps p H (ds.take n) (xs.take n) := fun n => by
  induction n with
  | zero => intro ds xs r; exact .nil
  | succ n ih =>
   intro ds xs r
   cases ds with
   | nil => unfold Reps at r; subst r; exact .nil
   | cons d ds => unfold Reps at r; obtain ⟨x, t, rfl, rx, z⟩ := r; exact .cons rx (ih z)
 refine ⟨_, ht _ (hd _ r), fun d h => List.mem_of_mem_drop (List.mem_of_mem_take h), ?_⟩
 rw [List.length_take, List.length_drop]; omega
structure Pl (p A B E M : Addr) (H : Hp) (bs es : List PyData) (lo hi st : Int) (xb xe : List V) : Prop where
 hA : H A = some (.tup [.ref B, .ref E, .ref M])
 hB : H B = some (.tup xb)
 hE : H E = some (.tup xe)
 hM : H M = some (.tup [.int lo, .int hi, .int st])
 rB : Reps p H bs xb
 rE : Reps p H es xe
 g : GoodP bs es lo hi st
theorem Pl.ev {p A B E M : Addr} {H H' : Hp} {bs es : List PyData} {lo hi st : Int} {xb xe : List V} (h : Pl p A B E M H bs es lo hi st xb xe) (e : Ev p H H') : Pl p A B E M H' bs es lo hi st xb xe :=
 ⟨e.tup h.hA, e.tup h.hB, e.tup h.hE, e.tup h.hM, Reps.ev e _ _ h.rB, Reps.ev e _ _ h.rE, h.g⟩
theorem Pl.sm {p A B E M : Addr} {H H' : Hp} {bs es : List PyData} {lo hi st : Int} {xb xe : List V} (h : Pl p A B E M H bs es lo hi st xb xe) (e : Same H H') : Pl p A B E M H' bs es lo hi st xb xe := h.ev (Ev.same e)
theorem Pl.of {p : Addr} {H : Hp} {bs es : List PyData} {lo hi st : Int} {v : V} (g : GoodP bs es lo hi st) (r : Rep p H (plantD bs es lo hi st) v) : ∃ A B E M xb xe, v = .ref A ∧ Pl p A B E M H bs es lo hi st xb xe := by
 obtain ⟨A, xs, rfl, hA, rs⟩ := Rep.shape r
 obtain ⟨x, y, z, rfl, rx, ry, rz⟩ := Reps.three rs
 obtain ⟨B, xb, rfl, hB, rB⟩ := Rep.shape rx
 obtain ⟨E, xe, rfl, hE, rE⟩ := Rep.shape ry
 obtain ⟨M, xm, rfl, hM, rM⟩ := Rep.shape rz
 obtain ⟨a, b, c, rfl, ra, rb, rc⟩ := Reps.three rM
 unfold Rep at ra rb rc
 subst ra rb rc
 exact ⟨A, B, E, M, xb, xe, rfl, hA, hB, hE, hM, rB, rE, g⟩
section
variable {p A B E M : Addr} {H : Hp} {bs es : List PyData} {lo hi st : Int} {xb xe : List V}
theorem Pl.dB (h : Pl p A B E M H bs es lo hi st xb xe) : Rep p H (.tuple bs) (.ref B) := Rep.tup h.hB h.rB
theorem Pl.dE (h : Pl p A B E M H bs es lo hi st xb xe) : Rep p H (.tuple es) (.ref E) := Rep.tup h.hE h.rE
theorem Pl.dM (h : Pl p A B E M H bs es lo hi st xb xe) : Rep p H (.tuple [.int lo, .int hi, .int st]) (.ref M) := Rep.tup h.hM (.cons Rep.int (.cons Rep.int (.cons Rep.int .nil)))
theorem Pl.sB (h : Pl p A B E M H bs es lo hi st xb xe) : Small 11000 2 (.tuple bs) := sT (fun d hd => goodB_small (h.g.b d hd)) (by have := h.g.b4; omega)
theorem Pl.sE (h : Pl p A B E M H bs es lo hi st xb xe) : Small 11000 2 (.tuple es) := sT (fun d hd => goodE_small (h.g.e d hd)) (by have := h.g.e4; omega)
theorem Pl.sM (h : Pl p A B E M H bs es lo hi st xb xe) : Small 11000 2 (.tuple [.int lo, .int hi, .int st]) := (ints3_small (by have := h.g.lo0; have := h.g.ls; have := h.g.sh; have := h.g.h4; omega) (by have := h.g.lo0; have := h.g.ls; have := h.g.sh; have := h.g.h4; omega) (by have := h.g.lo0; have := h.g.ls; have := h.g.sh; have := h.g.h4; omega)).mono (by decide) (by decide)
end
def sp__law_bent : Sp := fun vs H Q _ => match vs with
 | [.ref p, v] => Pen p H ∧ ∃ bs es lo hi st, GoodP bs es lo hi st ∧ Rep p H (plantD bs es lo hi st) v ∧ ∀ v H' d, Rep p H' d v → Nice d → Ev p H H' → Pen p H' → Q v H'
 | _ => False
theorem rowB {p : Addr} {H : Hp} {d : PyData} {v : V} (g : GoodB d) (r : Rep p H d v) : ∃ a ns, v = .ref a ∧ H a = some (.tup (List.map V.int ns)) ∧ 1 ≤ ns.length ∧ ns.length ≤ 10 ∧ ∀ n ∈ ns, n.natAbs ≤ 1000 := by
 obtain ⟨m, c, rfl, _⟩ := g
 obtain ⟨a, xs, rfl, ha, rs⟩ := Rep.shape r
 obtain ⟨x, y, rfl, rx, ry⟩ := Reps.two rs
 unfold Rep at rx ry; subst rx ry
 exact ⟨a, [m, c], rfl, ha, by simp, by simp, fun n hn => by simp only [List.mem_cons, List.not_mem_nil, or_false] at hn; omega⟩
theorem rowE {p : Addr} {H : Hp} {d : PyData} {v : V} (g : GoodE d) (r : Rep p H d v) : ∃ a ns, v = .ref a ∧ H a = some (.tup (List.map V.int ns)) ∧ 1 ≤ ns.length ∧ ns.length ≤ 10 ∧ ∀ n ∈ ns, n.natAbs ≤ 1000 := by
 obtain ⟨m, c, e, rfl, _⟩ := g
 obtain ⟨a, xs, rfl, ha, rs⟩ := Rep.shape r
 obtain ⟨x, y, z, rfl, rx, ry, rz⟩ := Reps.three rs
 unfold Rep at rx ry rz; subst rx ry rz
 exact ⟨a, [m, c, e], rfl, ha, by simp, by simp, fun n hn => by simp only [List.mem_cons, List.not_mem_nil, or_false] at hn; omega⟩
section
variable {P : Program} {w : World} {K : PySem.W.Frag} {mg : Str → Option Value} {base : Heap}
theorem sc__law_bent : FnScope ["_law_pen_here", "_law_plant_here", "_law_boilers", "_law_engines", "_law_main", "_law_way", "_law_at"] ["_law_pen_here", "_law_plant_here"] (defScope s__law_bent) := ⟨rfl, rfl, rfl, by decide +kernel, rfl, by decide +kernel, by decide +kernel⟩
theorem ok__law_bent (F : Df K mg "_law_bent" s__law_bent ["_law_pen_here", "_law_plant_here"]) (T : Tx mg) (D__law_bent_row : Fn P w K mg base 2 "_law_bent_row" ["_law_pen_here", "_law_row_here"] sp__law_bent_row) (D__law_draw : Fn P w K mg base 1 "_law_draw" ["_law_pen_here", "_law_many"] sp__law_draw) : Fn P w K mg base 3 "_law_bent" ["_law_pen_here", "_law_plant_here"] sp__law_bent := by
 refine F.fn sc__law_bent (fun vs H Q E h => ?_) (fun f cdv A outer s H vs Q E hr h => ?_)
 ·unfold sp__law_bent at h; split at h; rfl; exact h.elim
 refine ⟨_, (pss_cons (ps_asg (cy 1) (pgT K (n := 3) (pgs_cons (pgy 2 sc__law_bent.nd) (pgs_cons (pgy 3 sc__law_bent.nd) (pgs_cons (pgy 4 sc__law_bent.nd) pgs_nil))))) (pss_cons (ps_par (i := 5) (j := 6) rfl sc__law_bent.nd rfl rfl (by decide) rfl rfl (pb2 (c_call D__law_draw (hr.mono (by decide)) rfl (pb2 (cy 0) pe_int)) (c_call D__law_draw (hr.mono (by decide)) rfl (pb2 (cy 0) (pe_callB (lenS K) rfl T.b_len PySem.boot_len (pb1 (cy 2)))))) (by rfl)) (pss_cons (c_if (c_cmpT op_eq (cy 5) pe_int (nomark _)) (pss_one (ps_ret (c_tup (pb3 (pe_op o_catT (pe_op o_catT (pe_slice s_tup (cy 2) po_none (po_some (cy 6))) (c_tup (pb1 (c_call D__law_bent_row (hr.mono (by decide)) rfl (pb2 (cy 0) (pe_ix (ixT K) (cy 2) (cy 6) (fun _ _ => rfl))))))) (pe_slice s_tup (cy 2) (po_some (pe_op o_add (cy 6) pe_int)) po_none)) (cy 3) (cy 4))))) pss_nil) (pss_cons (c_if (PW.pt (c_and (c_cmpT op_eq (cy 5) pe_int (nomark _)) (pw_and1 (c_cmpT (o_neE hr.units0) (cy 3) (c_tup pa_nil) (nomark _))))) (pss_cons (ps_set (i := 6) sc__law_bent.nd rfl (loc_of (by rfl)) (c_call D__law_draw (hr.mono (by decide)) rfl (pb2 (cy 0) (pe_callB (lenS K) rfl T.b_len PySem.boot_len (pb1 (cy 3)))))) (pss_one (ps_ret (c_tup (pb3 (cy 2) (pe_op o_catT (pe_op o_catT (pe_slice s_tup (cy 3) po_none (po_some (cy 6))) (c_tup (pb1 (c_call D__law_bent_row (hr.mono (by decide)) rfl (pb2 (cy 0) (pe_ix (ixT K) (cy 3) (cy 6) (fun _ _ => rfl))))))) (pe_slice s_tup (cy 3) (po_some (pe_op o_add (cy 6) pe_int)) po_none)) (cy 4)))))) pss_nil) (pss_one (ps_ret (c_tup (pb3 (cy 2) (cy 3) (c_call D__law_bent_row (hr.mono (by decide)) rfl (pb2 (cy 0) (cy 4))))))))))), ?_⟩
 unfold sp__law_bent at h
 split at h
 ·rename_i p v0
  obtain ⟨pn0, bs, es, lo, hi, st, gp, rp, q⟩ := h
  obtain ⟨A, B, E, M, xb, xe, rfl, pl0⟩ := Pl.of gp rp
  refine ⟨A, [.ref B, .ref E, .ref M], rfl, SqT.of pl0.hA, rfl, _, _, rfl, _, _, rfl, _, _, rfl, rfl, ?_⟩
  refine ⟨pn0, by decide, by decide, fun way H1 w0 w1 e1 pn1 => ⟨B, xb, rfl, .inr (SqT.of (e1.tup pl0.hB)), pn1, ?_, ?_, fun ix H3 a0 a1 e3 pn => ⟨_, _, rfl, ?_⟩⟩⟩
  ·have := pl0.rB.len; have := pl0.g.b1; omega
  ·have := pl0.rB.len; have := pl0.g.b4; omega
  have e03 : Ev p H H3 := e1.trans e3
  have pl := pl0.ev e03
  refine ⟨rfl, ⟨fun c => ?_, fun c => ?_⟩⟩
  ·
   obtain ⟨j, x, hj, hat⟩ := pickV (xs := xb) a0 a1
   refine ⟨ix, rfl, B, _, rfl, pl.hB, fun s1 H4 q1 k1 => ?_⟩
   have pl4 := pl.sm q1
   obtain ⟨d, hd, rd⟩ := pl4.rB.got hj
   have gd := pl4.g.b d (List.mem_of_getElem? hd)
   obtain ⟨ra, ns, rfl, hra, n1, n2, n3⟩ := rowB gd rd
   refine ⟨B, _, ix, .ref ra, rfl, rfl, SqT.of pl4.hB, hat, pn.same q1, ns, hra, n1, n2, n3, fun v H5 d' rd' sd' e5 pn5 t1 ht1 => ?_⟩
   have k5 := (Ev.new (p := p) (o := .tup [v]) ht1).tup (e5.tup k1)
   have hlx : xb.length ≤ 4 := by have := pl.rB.len; have := pl.g.b4; omega
   refine ⟨s1, t1, _, _, rfl, rfl, k5, upd_same, by have := cutV_length xb none (some ix); rw [List.length_singleton]; omega, fun c1 H6 q6 k6 => ?_⟩
   have pl6 := (pl4.ev (e5.trans (Ev.new (o := .tup [v]) ht1))).sm q6
   refine ⟨ix + 1, rfl, B, _, rfl, pl6.hB, fun s2 H7 q7 k7 => ?_⟩
   refine ⟨c1, s2, _, _, rfl, rfl, q7 _ _ k6, k7, by have := cutV_length xb none (some ix); have := cutV_length xb (some (ix + 1)) none; rw [List.length_append, List.length_singleton]; omega, fun c2 H8 q8 k8 => ?_⟩
   have s58 : Same (upd H5 t1 (.tup [v])) H8 := q6.trans (q7.trans q8)
   have pl8 := pl6.sm (q7.trans q8)
   have e58 : Ev p H5 H8 := (Ev.new ht1).trans (Ev.same s58)
   obtain ⟨ds1, rs1, in1, l1⟩ := Reps.cut (lo := none) (hi := some ix) pl8.rB
   obtain ⟨ds2, rs2, in2, l2⟩ := Reps.cut (lo := some (ix + 1)) (hi := none) pl8.rB
   have rC : Rep p H8 (.tuple (ds1 ++ [d'] ++ ds2)) (.ref c2) := Rep.tup k8 ((rs1.append (.cons (Rep.ev e58 _ _ rd') .nil)).append rs2)
   have sC : Small 11000 2 (.tuple (ds1 ++ [d'] ++ ds2)) := sT (fun x hx => by
    rcases List.mem_append.mp hx with hx | hx
    ·rcases List.mem_append.mp hx with hx | hx
     ·exact goodB_small (pl.g.b x (in1 x hx))
     ·rw [List.mem_singleton.mp hx]; exact sd'
    ·exact goodB_small (pl.g.b x (in2 x hx))) (by have := pl.g.b4; rw [List.length_append, List.length_append, List.length_singleton]; omega)
   refine fun t2 ht2 => q _ _ _ (Rep.tup upd_same (.cons (Rep.ev (Ev.new ht2) _ _ rC) (.cons (Rep.ev (Ev.new ht2) _ _ pl8.dE) (.cons (Rep.ev (Ev.new ht2) _ _ pl8.dM) .nil)))) (nice3 sC pl8.sE pl8.sM) (e03.trans ((Ev.same q1).trans (e5.trans (e58.trans (Ev.new ht2))))) ((pn5.new ht1 |>.same s58).new ht2)
  ·refine ⟨rfl, ⟨fun c2 => ?_, fun c2 => ?_⟩⟩
   ·refine fun t0 ht0 => ⟨E, t0, xe, rfl, rfl, (Same.new ht0) _ _ pl.hE, upd_same, ⟨fun c3 => ?_, fun c3 => ?_⟩⟩
    ·have pl' := pl.sm (Same.new (o := .tup []) ht0)
     refine ⟨E, xe, rfl, .inr (SqT.of pl'.hE), pn.new ht0, ?_, ?_, fun ix H3' a0 a1 e3' pn' => ?_⟩
     ·have : xe ≠ [] := by intro z; rw [z] at c3; simp at c3
      have := List.length_pos_iff.mpr this; omega
     ·have := pl.rE.len; have := pl.g.e4; omega
     have e03' : Ev p H H3' := e03.trans ((Ev.new ht0).trans e3')
     replace pl := pl'.ev e3'
     clear pl'
     rename Pen p H3 => pnOld
     rename Pen p H3' => pn
     obtain ⟨j, x, hj, hat⟩ := pickV (xs := xe) a0 a1
     refine ⟨ix, rfl, E, _, rfl, pl.hE, fun s1 H4 q1 k1 => ?_⟩
     have pl4 := pl.sm q1
     obtain ⟨d, hd, rd⟩ := pl4.rE.got hj
     have gd := pl4.g.e d (List.mem_of_getElem? hd)
     obtain ⟨ra, ns, rfl, hra, n1, n2, n3⟩ := rowE gd rd
     refine ⟨E, _, ix, .ref ra, rfl, rfl, SqT.of pl4.hE, hat, pn.same q1, ns, hra, n1, n2, n3, fun v H5 d' rd' sd' e5 pn5 t1 ht1 => ?_⟩
     have k5 := (Ev.new (p := p) (o := .tup [v]) ht1).tup (e5.tup k1)
     have hlx : xe.length ≤ 4 := by have := pl.rE.len; have := pl.g.e4; omega
     refine ⟨s1, t1, _, _, rfl, rfl, k5, upd_same, by have := cutV_length xe none (some ix); rw [List.length_singleton]; omega, fun c1 H6 q6 k6 => ?_⟩
     have pl6 := (pl4.ev (e5.trans (Ev.new (o := .tup [v]) ht1))).sm q6
     refine ⟨ix + 1, rfl, E, _, rfl, pl6.hE, fun s2 H7 q7 k7 => ?_⟩
     refine ⟨c1, s2, _, _, rfl, rfl, q7 _ _ k6, k7, by have := cutV_length xe none (some ix); have := cutV_length xe (some (ix + 1)) none; rw [List.length_append, List.length_singleton]; omega, fun c2 H8 q8 k8 => ?_⟩
     have s58 : Same (upd H5 t1 (.tup [v])) H8 := q6.trans (q7.trans q8)
     have pl8 := pl6.sm (q7.trans q8)
     have e58 : Ev p H5 H8 := (Ev.new ht1).trans (Ev.same s58)
     obtain ⟨ds1, rs1, in1, l1⟩ := Reps.cut (lo := none) (hi := some ix) pl8.rE
     obtain ⟨ds2, rs2, in2, l2⟩ := Reps.cut (lo := some (ix + 1)) (hi := none) pl8.rE
     have rC : Rep p H8 (.tuple (ds1 ++ [d'] ++ ds2)) (.ref c2) := Rep.tup k8 ((rs1.append (.cons (Rep.ev e58 _ _ rd') .nil)).append rs2)
     have sC : Small 11000 2 (.tuple (ds1 ++ [d'] ++ ds2)) := sT (fun x hx => by
      rcases List.mem_append.mp hx with hx | hx
      ·rcases List.mem_append.mp hx with hx | hx
       ·exact goodE_small (pl.g.e x (in1 x hx))
       ·rw [List.mem_singleton.mp hx]; exact sd'
      ·exact goodE_small (pl.g.e x (in2 x hx))) (by have := pl.g.e4; rw [List.length_append, List.length_append, List.length_singleton]; omega)
     refine fun t2 ht2 => q _ _ _ (Rep.tup upd_same (.cons (Rep.ev (Ev.new ht2) _ _ pl8.dB) (.cons (Rep.ev (Ev.new ht2) _ _ rC) (.cons (Rep.ev (Ev.new ht2) _ _ pl8.dM) .nil)))) (nice3 pl8.sB sC pl8.sM) (e03'.trans ((Ev.same q1).trans (e5.trans (e58.trans (Ev.new ht2))))) ((pn5.new ht1 |>.same s58).new ht2)
    ·have pl' := pl.sm (Same.new (o := .tup []) ht0)
     refine ⟨pn.new ht0, [lo, hi, st], pl'.hM, by simp, by simp, (fun n hn => by have := gp.lo0; have := gp.ls; have := gp.sh; have := gp.h4; simp only [List.mem_cons, List.not_mem_nil, or_false] at hn; omega), fun v H5 d' rd' sd' e5 pn5 t2 ht2 => ?_⟩
     have pl8 := pl'.ev e5
     exact q _ _ _ (Rep.tup upd_same (.cons (Rep.ev (Ev.new ht2) _ _ pl8.dB) (.cons (Rep.ev (Ev.new ht2) _ _ pl8.dE) (.cons (Rep.ev (Ev.new ht2) _ _ rd') .nil)))) (nice3 pl8.sB pl8.sE (sd'.mono (by decide) (by decide))) (e03.trans ((Ev.new ht0).trans (e5.trans (Ev.new ht2)))) (pn5.new ht2)
   ·refine ⟨(fun z => by cases z), fun _ => ⟨pn, [lo, hi, st], pl.hM, by simp, by simp, (fun n hn => by have := gp.lo0; have := gp.ls; have := gp.sh; have := gp.h4; simp only [List.mem_cons, List.not_mem_nil, or_false] at hn; omega), fun v H5 d' rd' sd' e5 pn5 t2 ht2 => ?_⟩⟩
    have pl8 := pl.ev e5
    exact q _ _ _ (Rep.tup upd_same (.cons (Rep.ev (Ev.new ht2) _ _ pl8.dB) (.cons (Rep.ev (Ev.new ht2) _ _ pl8.dE) (.cons (Rep.ev (Ev.new ht2) _ _ rd') .nil)))) (nice3 pl8.sB pl8.sE (sd'.mono (by decide) (by decide))) (e03.trans (e5.trans (Ev.new ht2))) (pn5.new ht2)
 ·exact h.elim
end
end MF

end

section
namespace MF
open PySem PySem.Spec PyProof.Rows L2
structure Th (p T : Addr) (H : Hp) (n : Nat) : Prop where
 ex : ∃ xs ds, H T = some (.lst xs) ∧ Reps p H ds xs ∧ (∀ d ∈ ds, Nice d) ∧ xs.length ≤ n
 ne : T ≠ p
theorem Th.ev {p T : Addr} {H H' : Hp} {n : Nat} (t : Th p T H n) (e : Ev p H H') : Th p T H' n := by
 obtain ⟨⟨xs, ds, h1, h2, h3, h4⟩, ne⟩ := t
 exact ⟨⟨xs, ds, e.lst h1 ne, Reps.ev e _ _ h2, h3, h4⟩, ne⟩
theorem _root_.L2.Reps.rep {p : Addr} {H : Hp} {ds : List PyData} {xs : List V} (r : Reps p H ds xs) : ∀ k : Nat, Reps p H (List.replicate k ds).flatten (List.replicate k xs).flatten := fun k => by
 induction k with
 | zero => exact .nil
 | succ k ih => rw [List.replicate_succ, List.replicate_succ, List.flatten_cons, List.flatten_cons]; exact r.append ih
theorem cut_to {xs : List V} {k : Nat} : (cutV xs none (some (k : Int))).length ≤ k := by
 unfold cutV
 rw [HT.sIx_nat, HT.sIx_none, List.length_take]
 omega
theorem mem_rep {ds : List PyData} {k : Nat} {d : PyData} (h : d ∈ (List.replicate k ds).flatten) : d ∈ ds := by
 obtain ⟨l, hl, hd⟩ := List.mem_flatten.mp h
 rw [List.eq_of_mem_replicate hl] at hd
 exact hd
theorem part_small {p c : Addr} {H : Hp} {ds : List PyData} {xs : List V} {m k : Nat} (r : Reps p H ds xs) (g : ∀ d ∈ ds, Small 1000 1 d) (hk : k ≤ 10) (h : H c = some (.tup (cutV (List.replicate m xs).flatten none (some (k : Int))))) :
  ∃ d, Rep p H d (.ref c) ∧ Small 11000 2 d := by
 obtain ⟨ds', r', i', l'⟩ := Reps.cut (lo := none) (hi := some (k : Int)) (r.rep m)
 have := r'.len
 have := cut_to (xs := (List.replicate m xs).flatten) (k := k)
 exact ⟨_, Rep.tup h r', sT (fun d hd => g d (mem_rep (i' d hd))) (by omega)⟩
theorem ones_small {p c w1 : Addr} {H : Hp} {m : Nat} (hm : m ≤ 10) (h1 : H w1 = some (.tup [.int 1, .int 0, .int 1])) (h : H c = some (.tup (List.replicate m [V.ref w1]).flatten)) : ∃ d, Rep p H d (.ref c) ∧ Small 11000 2 d := by
 have r : Reps p H [.tuple [.int 1, .int 0, .int 1]] [.ref w1] := .cons (Rep.tup h1 (.cons Rep.int (.cons Rep.int (.cons Rep.int .nil)))) .nil
 refine ⟨_, Rep.tup h (r.rep m), sT (fun d hd => ?_) ?_⟩
 ·rw [List.mem_singleton.mp (mem_rep hd)]; exact ints3_small (by decide) (by decide) (by decide)
 ·rw [len_rep]; simp; omega
theorem tup3 {p c : Addr} {H : Hp} {x y z : V} {a b d : PyData} (h : H c = some (.tup [x, y, z])) (ra : Rep p H a x) (rb : Rep p H b y) (rd : Rep p H d z) (sa : Small 11000 2 a) (sb : Small 11000 2 b) (sd : Small 11000 2 d) : ∃ e, Rep p H e (.ref c) ∧ Nice e :=
 ⟨_, Rep.tup h (.cons ra (.cons rb (.cons rd .nil))), nice3 sa sb sd⟩
theorem empty_small : Small 11000 2 (.tuple []) := sT (fun _ h => nomatch h) (by decide)
theorem reps_of {p : Addr} {H : Hp} : ∀ {xs : List V}, (∀ v ∈ xs, ∃ d, Rep p H d v ∧ Nice d) → ∃ ds, Reps p H ds xs ∧ ∀ d ∈ ds, Nice d
 | [], _ => ⟨[], .nil, fun _ h => nomatch h⟩
 | v :: xs, h => by
  obtain ⟨d, r, n⟩ := h v List.mem_cons_self
  obtain ⟨ds, rs, ns⟩ := reps_of fun x hx => h x (List.mem_cons_of_mem _ hx)
  exact ⟨d :: ds, .cons r rs, fun x hx => (List.mem_cons.mp hx).elim (fun e => e ▸ n) (ns x)⟩
theorem Th.cat {p T : Addr} {H : Hp} {xs ys : List V} {ds es : List PyData} {n : Nat} (hT : H T = none) (pn : Pen p H) (r1 : Reps p H ds xs) (n1 : ∀ d ∈ ds, Nice d) (r2 : Reps p H es ys) (n2 : ∀ d ∈ es, Nice d) (hl : (xs ++ ys).length ≤ n) : Th p T (upd H T (.lst (xs ++ ys))) n :=
 ⟨⟨_, _, upd_same, Reps.ev (Ev.new hT) _ _ (r1.append r2), fun d hd => (List.mem_append.mp hd).elim (n1 d) (n2 d), hl⟩, pn.ne hT⟩
theorem big_list {n : Nat} (h : n ≤ 1000) : n ≤ sizeLine := Nat.le_trans h (by decide)
def sp_law (K : PySem.W.Frag) : Sp := fun vs H Q _ => match vs with | [.ref a] => ∃ ns : List Int, SqL K H a (ns.map V.int) ∧ ns.length ≤ 63 ∧ ∀ H', Q (.bl true) H' | _ => False
section
variable {P : Program} {w : World} {K : PySem.W.Frag} {mg : Str → Option Value} {base : Heap}
theorem sc_law : FnScope ["_law_script", "_law_cell_here", "_law_pen_here", "_law_plant_here", "_law_boilers", "_law_engines", "_law_main", "_law_things", "_law_thing", "_law_kept"] ["_law_script"] (defScope s_law) := ⟨rfl, rfl, rfl, by decide +kernel, rfl, by decide +kernel, by decide +kernel⟩
theorem ok_law {lf : Addr} {lfd : FuncData} (F : Fun K "law" "law" s_law lf lfd) (T : Tx mg) (D__law_bent : Fn P w K mg base 3 "_law_bent" ["_law_pen_here", "_law_plant_here"] sp__law_bent) (D__law_cell : Fn P w K mg base 1 "_law_cell" ["_law_script", "_law_k"] (sp__law_cell K)) (D__law_is_plant : Fn P w K mg base 3 "_law_is_plant" ["_law_thing"] sp__law_is_plant) (D__law_odd : Fn P w K mg base 2 "_law_odd" ["_law_pen_here"] sp__law_odd) (D__law_pen : Fn P w K mg base 1 "_law_pen" ["_law_cell_here"] sp__law_pen) (D__law_plant : Fn P w K mg base 2 "_law_plant" ["_law_pen_here"] sp__law_plant) (D_is_plant : Fn P w K mg base 5 "is_plant" ["thing"] sp_is_plant) : FnOk P w K mg base CX0 6 lf lfd ["_law_script"] (sp_law K) := by
 refine F.ok sc_law (fun vs H Q E h => ?_) (fun cdv A outer s H vs Q E hr h => ?_)
 ·unfold sp_law at h; split at h; rfl; exact h.elim
 refine ⟨_, (pss_cons (ps_for PassesOwn.never rfl (piL K (pe_op op_cat (c_lst (pb1 (c_call D__law_cell (hr.mono (by decide)) rfl (pb2 (cy 0) pe_int)))) (pe_slice (slL K) (cy 0) (po_some pe_int) (po_some pe_int)))) (pgy 1 sc_law.nd) (pss_cons (ps_set (i := 2) sc_law.nd rfl (loc_of (by rfl)) (c_call D__law_pen (hr.mono (by decide)) rfl (pb1 (cy 1)))) (pss_cons (ps_set (i := 3) sc_law.nd rfl (loc_of (by rfl)) (c_call D__law_plant (hr.mono (by decide)) rfl (pb1 (cy 2)))) (pss_cons (ps_asg (cy 3) (pgT K (n := 3) (pgs_cons (pgy 4 sc_law.nd) (pgs_cons (pgy 5 sc_law.nd) (pgs_cons (pgy 6 sc_law.nd) pgs_nil))))) (pss_cons (ps_set (i := 7) sc_law.nd rfl (loc_of (by rfl)) (c_lst (pa_cons (cy 3) (pa_cons (pe_callTy (lstOf K) rfl T.b_list boot_list' (pb1 (cy 3))) (pb4 (pe_slice s_tup (cy 3) po_none (po_some pe_int)) (pe_op o_catT (cy 3) (c_tup (pb1 (c_tup pa_nil)))) (c_tup (pb3 (c_tup pa_nil) (cy 5) (cy 6))) (c_tup (pb3 (pe_callTy (lstOf K) rfl T.b_list boot_list' (pb1 (cy 4))) (cy 5) (cy 6)))))))) (pss_cons (ps_set (i := 7) sc_law.nd rfl (loc_of (by rfl)) (pe_op op_cat (cy 7) (c_lst (pb2 (c_tup (pb3 (cy 4) (pe_callTy (lstOf K) rfl T.b_list boot_list' (pb1 (cy 5))) (cy 6))) (c_tup (pb3 (pe_slice s_tup (pe_op o_repT (cy 4) pe_int) po_none (po_some pe_int)) (cy 5) (cy 6))))))) (pss_cons (ps_set (i := 7) sc_law.nd rfl (loc_of (by rfl)) (pe_op op_cat (cy 7) (c_lst (pb2 (c_tup (pb3 (pe_slice s_tup (pe_op o_repT (cy 4) pe_int) po_none (po_some pe_int)) (pe_op o_repT (c_tup (pb1 (c_tup (pb3 pe_int pe_int pe_int)))) pe_int) (cy 6))) (c_tup (pb3 (cy 4) (pe_op o_repT (c_tup (pb1 (c_tup (pb3 pe_int pe_int pe_int)))) pe_int) (cy 6))))))) (pss_cons (ps_set (i := 7) sc_law.nd rfl (loc_of (by rfl)) (pe_op op_cat (cy 7) (pe_comp ["_law_one", "_law_boilers", "_law_engines"] [none, some 4, some 5] rfl (piL K (c_lst (pb3 (c_tup (pb3 pe_int pe_int pe_int)) (c_tup (pb3 pe_int pe_int pe_int)) (c_tup (pb3 pe_int pe_int pe_int))))) (BlockScope.of rfl) (fun _ _ _ _ => (pgy 0 (nd_of (by rfl)))) (fun _ _ _ _ => pts_nil) (fun _ _ _ _ => (c_tup (pb3 (cy 1) (cy 2) (cy 0))))))) (pss_cons (ps_set (i := 7) sc_law.nd rfl (loc_of (by rfl)) (pe_op op_cat (pe_op op_cat (cy 7) (pe_comp ["_law_turn", "_law_pen_here", "_law_plant_here"] [none, some 2, some 3] rfl (pi_range1 rfl T.b_range (pb1 pe_int)) (BlockScope.of rfl) (fun _ _ _ _ => (pgy 0 (nd_of (by rfl)))) (fun _ _ _ _ => pts_nil) (fun _ _ _ _ => (c_call D__law_bent (hr.mono (by decide)) rfl (pb2 (cy 1) (cy 2)))))) (c_lst (pb2 (c_call D__law_odd (hr.mono (by decide)) rfl (pb1 (cy 2))) (c_tup (pb3 (cy 4) (c_tup pa_nil) (cy 6))))))) (pss_one (ps_for PassesOwn.never rfl (piL K (cy 7)) (pgy 8 sc_law.nd) (pss_cons (ps_set (i := 9) sc_law.nd rfl (loc_of (by rfl)) (pe_callB (call_repr hr) rfl T.b_repr boot_repr (pb1 (cy 8)))) (pss_one (c_if (PW.pt (c_or (c_cmpT op_ne (pe_callB (call_repr hr) rfl T.b_repr boot_repr (pb1 (c_call D_is_plant (hr.mono (by decide)) rfl (pb1 (cy 8))))) (pe_callB (call_repr hr) rfl T.b_repr boot_repr (pb1 (c_call D__law_is_plant (hr.mono (by decide)) rfl (pb1 (cy 8))))) (nomark _)) (pw_or1 (c_cmpT op_ne (pe_callB (call_repr hr) rfl T.b_repr boot_repr (pb1 (cy 8))) (cy 9) (nomark _))))) (pss_one (ps_ret pe_bl)) pss_nil)))))))))))))) (pss_one (ps_ret pe_bl))), ?_⟩
 unfold sp_law at h
 split at h
 ·rename_i a
  obtain ⟨ns, hS, hn63, q⟩ := h
  refine ⟨ns, hS, by decide, fun c0 l1 hl1 => ?_⟩
  have hS1 : SqL K (upd H l1 (.lst [.int c0])) a (ns.map V.int) := (Same.new hl1).seq hS
  refine ⟨1, rfl, 4, rfl, a, _, rfl, hS1, fun l2 hl2 => ?_⟩
  have lc : (cutV (ns.map V.int) (some 1) (some 4)).length ≤ 63 := Nat.le_trans (cutV_length _ _ _) (by rw [List.length_map]; exact hn63)
  refine ⟨l1, l2, [.int c0], _, rfl, rfl, (Same.new hl2) _ _ upd_same, upd_same, big_list (by rw [List.length_singleton]; omega), fun L hL => ?_⟩
  have allI : ∀ v ∈ [V.int c0] ++ cutV (ns.map V.int) (some 1) (some 4), ∃ i, v = .int i := fun v hv => by
   rcases List.mem_append.mp hv with hv | hv
   ·exact ⟨c0, List.mem_singleton.mp hv⟩
   ·obtain ⟨i, _, e⟩ := List.mem_map.mp (cut_mem hv); exact ⟨i, e.symm⟩
  generalize hxs : [V.int c0] ++ cutV (ns.map V.int) (some 1) (some 4) = xs at allI
  refine ⟨L, rfl, ⟨xs, SqL.of (by rw [← hxs]; exact upd_same)⟩, for_list (xs := xs) (fun i σ H' => (∃ x1 x2 x3 x4 x5 x6 x7 x8 x9, σ = [some (.ref a), x1, x2, x3, x4, x5, x6, x7, x8, x9]) ∧ H' L = some (.lst xs)) ⟨⟨_, _, _, _, _, _, _, _, _, rfl⟩, by rw [← hxs]; exact upd_same⟩ (fun i σ H' _ h => SqL.of h.2) (fun i x σ H1 hx h => ?_) fun σ H' _ => q H'⟩
  obtain ⟨⟨x1, x2, x3, x4, x5, x6, x7, x8, x9, rfl⟩, hL1⟩ := h
  obtain ⟨c, rfl⟩ := allI x (List.mem_of_getElem? hx)
  refine fun p l f hp => ⟨⟨l, f, upd_same⟩, fun v H2 bs es lo hi st gp rp ev2 pn2 => ?_⟩
  have nLp : L ≠ p := ne_of_none hL1 hp
  have hLs2 : H2 L = some (.lst xs) := ev2.lst (by rw [upd_ne nLp]; exact hL1) nLp
  obtain ⟨A, B, E, M, xb, xe, rfl, pl⟩ := Pl.of gp rp
  refine ⟨A, _, rfl, SqT.of pl.hA, rfl, _, _, rfl, _, _, rfl, _, _, rfl, rfl, ?_⟩
  -- the first six
  refine ⟨A, _, rfl, .inr (SqT.of pl.hA), fun u1 hu1 => ?_⟩
  have pl1 := pl.sm (Same.new (o := .lst [.ref B, .ref E, .ref M]) hu1)
  refine ⟨2, rfl, A, _, rfl, pl1.hA, fun u2 H3 s3 k3 u3 hu3 u4 hu4 => ?_⟩
  have pl4 := (pl1.sm s3).sm ((Same.new (o := .tup []) hu3).trans (Same.new (o := .tup [.ref u3]) hu4))
  refine ⟨A, u4, _, _, rfl, rfl, pl4.hA, upd_same, by simp, fun u5 H4 s4 k4 u6 hu6 u7 hu7 => ?_⟩
  have s6 : Same H4 (upd (upd H4 u6 (.tup [])) u7 (.tup [.ref u6, .ref E, .ref M])) := (Same.new hu6).trans (Same.new hu7)
  have pl7 := (pl4.sm s4).sm s6
  refine ⟨B, xb, rfl, .inr (SqT.of pl7.hB), fun u8 hu8 u9 hu9 T1 hT1 => ?_⟩
  have s9 : Same (upd (upd H4 u6 (.tup [])) u7 (.tup [.ref u6, .ref E, .ref M])) (upd (upd (upd (upd (upd H4 u6 (.tup [])) u7 (.tup [.ref u6, .ref E, .ref M])) u8 (.lst xb)) u9 (.tup [.ref u8, .ref E, .ref M])) T1 (.lst [.ref A, .ref u1, .ref u2, .ref u5, .ref u7, .ref u9])) := (Same.new hu8).trans ((Same.new hu9).trans (Same.new hT1))
  have g1 := (s3.trans ((Same.new (o := .tup []) hu3).trans ((Same.new (o := .tup [.ref u3]) hu4).trans (s4.trans (s6.trans s9))))) _ _ (upd_same (H := H2) (a := u1) (o := .lst [.ref B, .ref E, .ref M]))
  have g2 := ((Same.new (o := .tup []) hu3).trans ((Same.new (o := .tup [.ref u3]) hu4).trans (s4.trans (s6.trans s9)))) _ _ k3
  have g3 := ((Same.new (o := .tup [.ref u3]) hu4).trans (s4.trans (s6.trans s9))) _ _ (upd_same (H := H3) (a := u3) (o := .tup []))
  have g5 := (s6.trans s9) _ _ k4
  have g6 := ((Same.new (o := .tup [.ref u6, .ref E, .ref M]) hu7).trans s9) _ _ (upd_same (H := H4) (a := u6) (o := .tup []))
  have g7 := s9 _ _ (upd_same (H := upd H4 u6 (.tup [])) (a := u7) (o := .tup [.ref u6, .ref E, .ref M]))
  have g8 := ((Same.new (o := .tup [.ref u8, .ref E, .ref M]) hu9).trans (Same.new (o := .lst [.ref A, .ref u1, .ref u2, .ref u5, .ref u7, .ref u9]) hT1)) _ _ (upd_same (H := upd (upd H4 u6 (.tup [])) u7 (.tup [.ref u6, .ref E, .ref M])) (a := u8) (o := .lst xb))
  have g9 := (Same.new (o := .lst [.ref A, .ref u1, .ref u2, .ref u5, .ref u7, .ref u9]) hT1) _ _ (upd_same (H := upd (upd (upd H4 u6 (.tup [])) u7 (.tup [.ref u6, .ref E, .ref M])) u8 (.lst xb)) (a := u9) (o := .tup [.ref u8, .ref E, .ref M]))
  have gT := upd_same (H := upd (upd (upd (upd H4 u6 (.tup [])) u7 (.tup [.ref u6, .ref E, .ref M])) u8 (.lst xb)) u9 (.tup [.ref u8, .ref E, .ref M])) (a := T1) (o := .lst [.ref A, .ref u1, .ref u2, .ref u5, .ref u7, .ref u9])
  have sAll : Same H2 (upd (upd (upd (upd (upd H4 u6 (.tup [])) u7 (.tup [.ref u6, .ref E, .ref M])) u8 (.lst xb)) u9 (.tup [.ref u8, .ref E, .ref M])) T1 (.lst [.ref A, .ref u1, .ref u2, .ref u5, .ref u7, .ref u9])) :=
   (Same.new hu1).trans (s3.trans ((Same.new hu3).trans ((Same.new hu4).trans (s4.trans (s6.trans s9)))))
  have nu1 : u1 ≠ p := pn2.ne hu1
  have nu8 : u8 ≠ p := (pn2.same ((Same.new hu1).trans (s3.trans ((Same.new hu3).trans ((Same.new hu4).trans (s4.trans s6)))))).ne hu8
  generalize upd (upd (upd (upd (upd H4 u6 (.tup [])) u7 (.tup [.ref u6, .ref E, .ref M])) u8 (.lst xb)) u9 (.tup [.ref u8, .ref E, .ref M])) T1 (.lst [.ref A, .ref u1, .ref u2, .ref u5, .ref u7, .ref u9]) = H5 at g1 g2 g3 g5 g6 g7 g8 g9 gT sAll
  have pl5 := pl.sm sAll
  have pn5 := pn2.same sAll
  have nl : ∀ (u : Addr) (zs : List V), H5 u = some (.lst zs) → zs.length ≠ 2 → u ≠ p := fun u zs h hz e => by
   obtain ⟨l, f, z⟩ := pn5
   rw [e, z] at h; cases h; exact hz rfl
  have r3 : Reps p H5 [.tuple bs, .tuple es, .tuple [.int lo, .int hi, .int st]] [.ref B, .ref E, .ref M] := .cons pl5.dB (.cons pl5.dE (.cons pl5.dM .nil))
  have sm3 : ∀ d ∈ [PyData.tuple bs, .tuple es, .tuple [.int lo, .int hi, .int st]], Small 11000 2 d := fun d hd => by
   simp only [List.mem_cons, List.not_mem_nil, or_false] at hd
   rcases hd with rfl | rfl | rfl
   ·exact pl5.sB
   ·exact pl5.sE
   ·exact pl5.sM
  have gB : ∀ d ∈ bs, Small 1000 1 d := fun d hd => goodB_small (gp.b d hd)
  have gE : ∀ d ∈ es, Small 1000 1 d := fun d hd => goodE_small (gp.e d hd)
  have lB := gp.b4
  have lE := gp.e4
  have lb := pl.rB.len
  have hxb : xb ≠ [] := by intro z; rw [z] at lb; have := gp.b1; simp only [List.length_nil] at lb; omega
  obtain ⟨ds1, rs1, ns1⟩ := reps_of (p := p) (H := H5) (xs := [.ref A, .ref u1, .ref u2, .ref u5, .ref u7, .ref u9]) (fun v hv => by
   simp only [List.mem_cons, List.not_mem_nil, or_false] at hv
   rcases hv with rfl | rfl | rfl | rfl | rfl | rfl
   ·exact ⟨_, Rep.tup pl5.hA r3, niceT sm3 (by simp)⟩
   ·exact ⟨_, Rep.lst nu1 g1 r3, niceL sm3 (by simp)⟩
   ·obtain ⟨ds, r, i, l⟩ := Reps.cut (lo := none) (hi := some 2) r3
    exact ⟨_, Rep.tup g2 r, niceT (fun d hd => sm3 d (i d hd)) (by simp at l; omega)⟩
   ·refine ⟨_, Rep.tup g5 (r3.append (.cons (Rep.tup g3 .nil) .nil)), niceT (fun d hd => ?_) (by simp)⟩
    rcases List.mem_append.mp hd with hd | hd
    ·exact sm3 d hd
    ·rw [List.mem_singleton.mp hd]; exact empty_small
   ·exact tup3 g7 (Rep.tup g6 .nil) pl5.dE pl5.dM empty_small pl5.sE pl5.sM
   ·exact tup3 g9 (Rep.lst nu8 g8 pl5.rB) pl5.dE pl5.dM (sL gB (by omega)) pl5.sE pl5.sM)
  -- two more
  refine ⟨E, xe, rfl, .inr (SqT.of pl5.hE), fun v1 hv1 v2 hv2 => ?_⟩
  have sv : Same H5 (upd (upd H5 v1 (.lst xe)) v2 (.tup [.ref B, .ref v1, .ref M])) := (Same.new hv1).trans (Same.new hv2)
  refine ⟨B, 5, xb, rfl, rfl, (pl5.sm sv).hB, hxb, by decide, by decide, by omega, fun v3 H6 s6 k6 => ⟨5, rfl, v3, _, rfl, k6, fun v4 H7 s7 k7 v5 hv5 L2 hL2 => ?_⟩⟩
  have s78 : Same H7 (upd (upd H7 v5 (.tup [.ref v4, .ref E, .ref M])) L2 (.lst [.ref v2, .ref v5])) := (Same.new hv5).trans (Same.new hL2)
  have s58 : Same H5 (upd (upd H7 v5 (.tup [.ref v4, .ref E, .ref M])) L2 (.lst [.ref v2, .ref v5])) := sv.trans (s6.trans (s7.trans s78))
  refine ⟨T1, L2, _, _, rfl, rfl, s58 _ _ gT, upd_same, big_list (by simp), fun T2 hT2 => ?_⟩
  have pl8 := pl5.sm s58
  have pn8 := pn5.same s58
  have f1 := ((Same.new hv2).trans (s6.trans (s7.trans s78))) _ _ (upd_same (H := H5) (a := v1) (o := .lst xe))
  have f2 := (s6.trans (s7.trans s78)) _ _ (upd_same (H := upd H5 v1 (.lst xe)) (a := v2) (o := .tup [.ref B, .ref v1, .ref M]))
  have f4 := s78 _ _ k7
  have f5 := (Same.new (o := .lst [.ref v2, .ref v5]) hL2) _ _ (upd_same (H := H7) (a := v5) (o := .tup [.ref v4, .ref E, .ref M]))
  obtain ⟨d4, r4, sd4⟩ := part_small (p := p) (m := 5) (k := 5) pl8.rB gB (by decide) f4
  obtain ⟨e2, re2, ne2⟩ := tup3 f2 pl8.dB (Rep.lst (pn5.ne hv1) f1 pl8.rE) pl8.dM pl8.sB (sL gE (by omega)) pl8.sM
  obtain ⟨e5, re5, ne5⟩ := tup3 f5 r4 pl8.dE pl8.dM sd4 pl8.sE pl8.sM
  have t2 := Th.cat (n := 8) hT2 pn8 (Reps.ev (Ev.same s58) _ _ rs1) ns1 (.cons re2 (.cons re5 .nil)) (fun d hd => by
   simp only [List.mem_cons, List.not_mem_nil, or_false] at hd
   rcases hd with rfl | rfl
   ·exact ne2
   ·exact ne5) (by simp)
  have s9' := s58.trans (Same.new (o := .lst ([.ref A, .ref u1, .ref u2, .ref u5, .ref u7, .ref u9] ++ [.ref v2, .ref v5])) hT2)
  generalize upd (upd (upd H7 v5 (.tup [.ref v4, .ref E, .ref M])) L2 (.lst [.ref v2, .ref v5])) T2 (.lst ([.ref A, .ref u1, .ref u2, .ref u5, .ref u7, .ref u9] ++ [.ref v2, .ref v5])) = H9 at t2 s9'
  have pl9 := pl5.sm s9'
  have pn9 := pn5.same s9'
  obtain ⟨⟨xs2, ds2, gT2, rs2, ns2, l2'⟩, nT2⟩ := t2
  clear f1 f2 f4 f5 re2 re5 r4 pl8 pn8 s58 s78 rs1 r3 g1 g2 g3 g5 g6 g7 g8 g9 gT
  -- two more
  refine ⟨B, 4, xb, rfl, rfl, pl9.hB, hxb, by decide, by decide, by omega, fun w1 H10 s10 k10 => ⟨4, rfl, w1, _, rfl, k10, fun w2 H11 s11 k11 w3 hw3 w4 hw4 => ?_⟩⟩
  refine ⟨w4, 4, [.ref w3], rfl, rfl, upd_same, by simp, by decide, by decide, by simp, fun w5 H12 s12 k12 w6 hw6 w7 hw7 w8 hw8 => ?_⟩
  refine ⟨w8, 5, [.ref w7], rfl, rfl, upd_same, by simp, by decide, by decide, by simp, fun w9 H13 s13 k13 w10 hw10 L3 hL3 => ?_⟩
  have sA : Same H11 H12 := ((Same.new hw3).trans (Same.new hw4)).trans s12
  have sB' : Same (upd H12 w6 (.tup [.ref w2, .ref w5, .ref M])) H13 := ((Same.new hw7).trans (Same.new hw8)).trans s13
  have sC : Same H13 (upd (upd H13 w10 (.tup [.ref B, .ref w9, .ref M])) L3 (.lst [.ref w6, .ref w10])) := (Same.new hw10).trans (Same.new hL3)
  have s9C : Same H9 (upd (upd H13 w10 (.tup [.ref B, .ref w9, .ref M])) L3 (.lst [.ref w6, .ref w10])) := s10.trans (s11.trans (sA.trans ((Same.new hw6).trans (sB'.trans sC))))
  refine ⟨T2, L3, xs2, _, rfl, rfl, s9C _ _ gT2, upd_same, big_list (by simp; omega), fun T3 hT3 => ?_⟩
  have plC := pl9.sm s9C
  have pnC := pn9.same s9C
  have c2 := (sA.trans ((Same.new hw6).trans (sB'.trans sC))) _ _ k11
  have c3 := ((Same.new hw4).trans (s12.trans ((Same.new hw6).trans (sB'.trans sC)))) _ _ (upd_same (H := H11) (a := w3) (o := .tup [.int 1, .int 0, .int 1]))
  have c5 := ((Same.new hw6).trans (sB'.trans sC)) _ _ k12
  have c6 := (sB'.trans sC) _ _ (upd_same (H := H12) (a := w6) (o := .tup [.ref w2, .ref w5, .ref M]))
  have c7 := ((Same.new hw8).trans (s13.trans sC)) _ _ (upd_same (H := upd H12 w6 (.tup [.ref w2, .ref w5, .ref M])) (a := w7) (o := .tup [.int 1, .int 0, .int 1]))
  have c9 := sC _ _ k13
  have c10 := (Same.new (o := .lst [.ref w6, .ref w10]) hL3) _ _ (upd_same (H := H13) (a := w10) (o := .tup [.ref B, .ref w9, .ref M]))
  obtain ⟨d2, rd2, sd2⟩ := part_small (p := p) (m := 4) (k := 4) plC.rB gB (by decide) c2
  obtain ⟨d5, rd5, sd5⟩ := ones_small (p := p) (m := 4) (by decide) c3 c5
  obtain ⟨d9, rd9, sd9⟩ := ones_small (p := p) (m := 5) (by decide) c7 c9
  obtain ⟨e6, re6, ne6⟩ := tup3 c6 rd2 rd5 plC.dM sd2 sd5 plC.sM
  obtain ⟨e10, re10, ne10⟩ := tup3 c10 plC.dB rd9 plC.dM plC.sB sd9 plC.sM
  have t3 := Th.cat (n := 10) hT3 pnC (Reps.ev (Ev.same s9C) _ _ rs2) ns2 (.cons re6 (.cons re10 .nil)) (fun d hd => by
   simp only [List.mem_cons, List.not_mem_nil, or_false] at hd
   rcases hd with rfl | rfl
   ·exact ne6
   ·exact ne10) (by simp; omega)
  have s14 := s9'.trans (s9C.trans (Same.new (o := .lst (xs2 ++ [.ref w6, .ref w10])) hT3))
  generalize upd (upd (upd H13 w10 (.tup [.ref B, .ref w9, .ref M])) L3 (.lst [.ref w6, .ref w10])) T3 (.lst (xs2 ++ [.ref w6, .ref w10])) = H14 at t3 s14
  have pl14 := pl5.sm s14
  have pn14 := pn5.same s14
  obtain ⟨⟨xs3, ds3, gT3, rs3, ns3, l3'⟩, nT3⟩ := t3
  clear c2 c3 c5 c6 c7 c9 c10 re6 re10 rd2 rd5 rd9 plC pnC s9C sA sB' sC rs2 gT2
  -- three by a comprehension
  refine fun y1 hy1 y2 hy2 y3 hy3 Y hY => ⟨Y, rfl, ⟨_, SqL.of upd_same⟩, ?_⟩
  have sY : Same H14 (upd (upd (upd (upd H14 y1 (.tup [.int 0, .int 40, .int 0])) y2 (.tup [.int 3, .int 3, .int 3])) y3 (.tup [.int 0, .int 40, .int 41])) Y (.lst [.ref y1, .ref y2, .ref y3])) := (Same.new hy1).trans ((Same.new hy2).trans ((Same.new hy3).trans (Same.new hY)))
  have j1 := ((Same.new hy2).trans ((Same.new hy3).trans (Same.new (o := .lst [.ref y1, .ref y2, .ref y3]) hY))) _ _ (upd_same (H := H14) (a := y1) (o := .tup [.int 0, .int 40, .int 0]))
  have j2 := ((Same.new hy3).trans (Same.new (o := .lst [.ref y1, .ref y2, .ref y3]) hY)) _ _ (upd_same (H := upd H14 y1 (.tup [.int 0, .int 40, .int 0])) (a := y2) (o := .tup [.int 3, .int 3, .int 3]))
  have j3 := (Same.new (o := .lst [.ref y1, .ref y2, .ref y3]) hY) _ _ (upd_same (H := upd (upd H14 y1 (.tup [.int 0, .int 40, .int 0])) y2 (.tup [.int 3, .int 3, .int 3])) (a := y3) (o := .tup [.int 0, .int 40, .int 41]))
  have jY := upd_same (H := upd (upd (upd H14 y1 (.tup [.int 0, .int 40, .int 0])) y2 (.tup [.int 3, .int 3, .int 3])) y3 (.tup [.int 0, .int 40, .int 41])) (a := Y) (o := .lst [.ref y1, .ref y2, .ref y3])
  generalize upd (upd (upd (upd H14 y1 (.tup [.int 0, .int 40, .int 0])) y2 (.tup [.int 3, .int 3, .int 3])) y3 (.tup [.int 0, .int 40, .int 41])) Y (.lst [.ref y1, .ref y2, .ref y3]) = HY at sY j1 j2 j3 jY
  have i3 : ∀ a b c : Int, a.natAbs < 1000 → b.natAbs < 1000 → c.natAbs < 1000 → Small 11000 2 (.tuple [.int a, .int b, .int c]) := fun a b c h1 h2 h3 => (ints3_small h1 h2 h3).mono (by decide) (by decide)
  have jr : ∀ v ∈ [V.ref y1, .ref y2, .ref y3], ∃ d, Rep p HY d v ∧ Small 11000 2 d := fun v hv => by
   simp only [List.mem_cons, List.not_mem_nil, or_false] at hv
   rcases hv with rfl | rfl | rfl
   ·exact ⟨_, Rep.tup j1 (.cons Rep.int (.cons Rep.int (.cons Rep.int .nil))), i3 _ _ _ (by decide) (by decide) (by decide)⟩
   ·exact ⟨_, Rep.tup j2 (.cons Rep.int (.cons Rep.int (.cons Rep.int .nil))), i3 _ _ _ (by decide) (by decide) (by decide)⟩
   ·exact ⟨_, Rep.tup j3 (.cons Rep.int (.cons Rep.int (.cons Rep.int .nil))), i3 _ _ _ (by decide) (by decide) (by decide)⟩
  have plY := pl14.sm sY
  refine walk_lst (xs := [.ref y1, .ref y2, .ref y3]) (fun i ys H' => Same HY H' ∧ ys.length = i ∧ ∃ ds, Reps p H' ds ys ∧ ∀ d ∈ ds, Nice d) (by show 3 ≤ 100000; decide) ⟨Same.refl _, rfl, [], .nil, fun _ h => nomatch h⟩ (fun i ys H' h => by rw [h.2.1]; exact Nat.le_refl _) (fun i ys H' _ h => SqL.of (h.1 _ _ jY)) (fun i x ys H' hx h => ?_) fun ys H15 h => ?_
  ·obtain ⟨d, rd, sd⟩ := jr x (List.mem_of_getElem? hx)
   obtain ⟨sh, hi', ds, rs, ns⟩ := h
   refine ⟨⟨rfl, rfl, trivial⟩, fun _ tt htt => ?_, fun z => by cases z⟩
   have s1 := sh.trans (Same.new (o := .tup [.ref B, .ref E, x]) htt)
   have plT := plY.sm s1
   obtain ⟨e, re, ne⟩ := tup3 (upd_same (H := H') (a := tt) (o := .tup [.ref B, .ref E, x])) plT.dB plT.dE (Rep.ev (Ev.same s1) _ _ rd) plT.sB plT.sE sd
   exact ⟨s1, by simp [hi'], ds ++ [e], (Reps.ev (Ev.new htt) _ _ rs).append (.cons re .nil), fun d hd => (List.mem_append.mp hd).elim (ns d) fun z => by rw [List.mem_singleton.mp z]; exact ne⟩
  obtain ⟨sh, hi', ds, rs, ns⟩ := h
  intro C hC
  have s15 : Same H14 (upd H15 C (.lst ys)) := sY.trans (sh.trans (Same.new hC))
  have ly : ys.length = 3 := hi'
  refine ⟨T3, C, xs3, ys, rfl, rfl, s15 _ _ gT3, upd_same, big_list (by omega), fun T4 hT4 => ?_⟩
  have t4 := Th.cat (n := 13) hT4 (pn14.same s15) (Reps.ev (Ev.same s15) _ _ rs3) ns3 (Reps.ev (Ev.new hC) _ _ rs) ns (by rw [List.length_append]; omega)
  have s16 := s14.trans (s15.trans (Same.new (o := .lst (xs3 ++ ys)) hT4))
  generalize upd (upd H15 C (.lst ys)) T4 (.lst (xs3 ++ ys)) = H16 at t4 s16
  have pl16 := pl5.sm s16
  have pn16 := pn5.same s16
  obtain ⟨⟨xs4, ds4, gT4, rs4, ns4, l4'⟩, nT4⟩ := t4
  clear j1 j2 j3 jY jr plY s15 rs ns sh
  -- ten bent ones
  refine ⟨10, rfl, by decide, by decide, walk_range (n := 10) (fun i ys H' => Ev p H16 H' ∧ Pen p H' ∧ ys.length = i ∧ ∃ ds, Reps p H' ds ys ∧ ∀ d ∈ ds, Nice d) (by decide) ⟨Ev.refl, pn16, rfl, [], .nil, fun _ h => nomatch h⟩ (fun i ys H' h => by rw [h.2.2.1]; exact Nat.le_refl _) (fun i ys H' hi' h => ?_) fun ys H17 h => ?_⟩
  ·obtain ⟨eh, ph, hi', ds, rs, ns⟩ := h
   have plT := pl16.ev eh
   refine ⟨⟨rfl, rfl, trivial⟩, fun _ => ⟨ph, bs, es, lo, hi, st, gp, Rep.tup plT.hA (.cons plT.dB (.cons plT.dE (.cons plT.dM .nil))), fun v H2' d rd nd e2 pn2' => ⟨eh.trans e2, pn2', by simp [hi'], ds ++ [d], (Reps.ev e2 _ _ rs).append (.cons rd .nil), fun x hx => (List.mem_append.mp hx).elim (ns x) fun z => by rw [List.mem_singleton.mp z]; exact nd⟩⟩, fun z => by cases z⟩
  obtain ⟨eh, ph, hi', ds, rs, ns⟩ := h
  intro C2 hC2
  have ly : ys.length = 10 := hi'
  have e17 : Ev p H16 (upd H17 C2 (.lst ys)) := eh.trans (Ev.new hC2)
  refine ⟨T4, C2, xs4, ys, rfl, rfl, e17.lst gT4 nT4, upd_same, big_list (by omega), fun T5 hT5 => ?_⟩
  have t5 := Th.cat (n := 23) hT5 (ph.new hC2) (Reps.ev e17 _ _ rs4) ns4 (Reps.ev (Ev.new hC2) _ _ rs) ns (by rw [List.length_append]; omega)
  refine ⟨(ph.new hC2).new hT5, fun ov H18 od rod nod e18 pn18 z1 hz1 z2 hz2 L5 hL5 => ?_⟩
  have e16 : Ev p H16 H18 := e17.trans ((Ev.new hT5).trans e18)
  have t5' := t5.ev e18
  obtain ⟨⟨xs5, ds5, gT5, rs5, ns5, l5'⟩, nT5⟩ := t5'
  have xeq : xs5 = xs4 ++ ys := by
   have z := e18.lst (upd_same (H := upd H17 C2 (.lst ys)) (a := T5) (o := .lst (xs4 ++ ys))) nT5
   rw [gT5] at z; cases z; rfl
  subst xeq
  have s19 : Same H18 (upd (upd (upd H18 z1 (.tup [])) z2 (.tup [.ref B, .ref z1, .ref M])) L5 (.lst [ov, .ref z2])) := (Same.new hz1).trans ((Same.new hz2).trans (Same.new hL5))
  refine ⟨T5, L5, _, _, rfl, rfl, s19 _ _ gT5, upd_same, big_list (by simp; omega), fun T6 hT6 => ?_⟩
  have pl19 := (pl16.ev e16).sm s19
  have m1 := ((Same.new hz2).trans (Same.new (o := .lst [ov, .ref z2]) hL5)) _ _ (upd_same (H := H18) (a := z1) (o := .tup []))
  have m2 := (Same.new (o := .lst [ov, .ref z2]) hL5) _ _ (upd_same (H := upd H18 z1 (.tup [])) (a := z2) (o := .tup [.ref B, .ref z1, .ref M]))
  obtain ⟨e2, re2, ne2⟩ := tup3 m2 pl19.dB (Rep.tup m1 .nil) pl19.dM pl19.sB empty_small pl19.sM
  have t6 := Th.cat (n := 25) hT6 (pn18.same s19) (Reps.ev (Ev.same s19) _ _ rs5) ns5 (.cons (Rep.ev (Ev.same s19) _ _ rod) (.cons re2 .nil)) (fun d hd => by
   simp only [List.mem_cons, List.not_mem_nil, or_false] at hd
   rcases hd with rfl | rfl
   ·exact nod
   ·exact ne2) (by simp; omega)
  have e20 : Ev p H2 (upd (upd (upd (upd H18 z1 (.tup [])) z2 (.tup [.ref B, .ref z1, .ref M])) L5 (.lst [ov, .ref z2])) T6 (.lst (xs4 ++ ys ++ [ov, .ref z2]))) := (Ev.same (sAll.trans s16)).trans (e16.trans ((Ev.same s19).trans (Ev.new hT6)))
  generalize upd (upd (upd (upd H18 z1 (.tup [])) z2 (.tup [.ref B, .ref z1, .ref M])) L5 (.lst [ov, .ref z2])) T6 (.lst (xs4 ++ ys ++ [ov, .ref z2])) = H20 at t6 e20
  obtain ⟨⟨xs6, ds6, gT6, rs6, ns6, l6'⟩, nT6⟩ := t6
  -- each is looked at
  refine ⟨T6, rfl, ⟨xs6, SqL.of gT6⟩, for_list (xs := xs6) (fun i σ H' => (∃ k8 k9, σ = [some (.ref a), some (.int c), some (.ref p), some (.ref A), some (.ref B), some (.ref E), some (.ref M), some (.ref T6), k8, k9]) ∧ Same H20 H') ⟨⟨_, _, rfl⟩, Same.refl _⟩ (fun i σ H' _ h => SqL.of (h.2 _ _ gT6)) (fun i x σ H' hx h => ?_) fun σ H' h => ?_⟩
  ·obtain ⟨⟨k8, k9, rfl⟩, sh⟩ := h
   obtain ⟨d, hd, rd0⟩ := rs6.got hx
   have nd := ns6 d (List.mem_of_getElem? hd)
   have rd := Rep.ev (Ev.same sh) _ _ rd0
   have nb : ∀ b, Nice (.bool b) := fun b => ⟨by cases b <;> decide, by cases b <;> decide, .inl rfl⟩
   refine ⟨p, d, rd, nd, p, d, rd, fun b H3 hb s3 => ⟨p, .bool b, Rep.bl, nb b, p, d, Rep.ev (Ev.same s3) _ _ rd, fun b2 H4 hb2 s4 => ⟨p, .bool b2, Rep.bl, nb b2, rfl, ?_⟩⟩⟩
   have ebb : b2 = b := by rw [hb, hb2]
   subst ebb
   refine ⟨fun z => by simp at z, fun _ => ⟨p, d, Rep.ev (Ev.same (s3.trans s4)) _ _ rd, nd, rfl, ⟨fun z => by simp at z, fun _ => ⟨⟨_, _, rfl⟩, sh.trans (s3.trans s4)⟩⟩⟩⟩
  ·obtain ⟨⟨k8, k9, rfl⟩, sh⟩ := h
   exact ⟨⟨_, _, _, _, _, _, _, _, _, rfl⟩, (e20.trans (Ev.same sh)).lst hLs2 nLp⟩
 ·exact h.elim
end
end MF

end

section
namespace MF
open PySem PySem.Spec PyProof.Rows L2
abbrev D4 (K : PySem.W.Frag) (x : Str) (st : Stmt) : Prop := ∃ (f : Addr) (oc : Value) (od an : Option Addr) (sl : Array (Option Value)) (kV dc pm cd ct : Value), PySem.W.nsIn K mainGlobals x = some (some (.ref f)) ∧ K.lookup f = some ⟨oc, od, .func (PySem.W.fnOf x x (defArgs st) (defBody st) (defScope st) .none kV dc pm an cd ct), sl⟩ ∧ PySem.W.codeIn K cd x = true ∧ PySem.W.keepIn K (.ref f) = true
theorem d4_mk {K : PySem.W.Frag} {x : Str} {st : Stmt} {f : Addr} {oc : Value} {od an : Option Addr} {sl : Array (Option Value)} {kV dc pm cd ct : Value} (a : PySem.W.nsIn K mainGlobals x = some (some (.ref f))) (l : K.lookup f = some ⟨oc, od, .func (PySem.W.fnOf x x (defArgs st) (defBody st) (defScope st) .none kV dc pm an cd ct), sl⟩) (c : PySem.W.codeIn K cd x = true) (k : PySem.W.keepIn K (.ref f) = true) : D4 K x st := ⟨_, _, _, _, _, _, _, _, _, _, a, l, c, k⟩
theorem df_mk {K : PySem.W.Frag} {h : Heap} {mg : Str → Option Value} {x : Str} {st : Stmt} {ps : List Str} (X : K.In h) (G : h.Ns mainGlobals mg) (d : D4 K x st)
  (hb : ∀ (kV doc pm : Value) (an : Option Addr) (cdv ct : Value) (us : List Value), us.length = ps.length → bindArgs (PySem.W.fnOf x x (defArgs st) (defBody st) (defScope st) .none kV doc pm an cdv ct) ⟨us, []⟩ = pure (ps.zip us)) : Df K mg x st ps := by
 obtain ⟨f, _, _, _, _, _, _, _, _, _, a, l, c, k⟩ := d
 exact ⟨f, _, fun_mk l c k, PySem.W.mg_of X G a, (fun_mk l c k).binds hb⟩
theorem df_1 {K : PySem.W.Frag} {h : Heap} {mg : Str → Option Value} {x : Str} {st : Stmt} {p0 : Str} (X : K.In h) (G : h.Ns mainGlobals mg) (d : D4 K x st) (hb : ∀ (kV doc pm : Value) (an : Option Addr) (cdv ct a0 : Value), bindArgs (PySem.W.fnOf x x (defArgs st) (defBody st) (defScope st) .none kV doc pm an cdv ct) ⟨[a0], []⟩ = pure ([p0].zip [a0]) := by intros; rfl) : Df K mg x st [p0] :=
 df_mk X G d fun _ _ _ _ _ _ us hl => match us, hl with | [_], _ => hb _ _ _ _ _ _ _
theorem df_2 {K : PySem.W.Frag} {h : Heap} {mg : Str → Option Value} {x : Str} {st : Stmt} {p0 p1 : Str} (X : K.In h) (G : h.Ns mainGlobals mg) (d : D4 K x st) (hb : ∀ (kV doc pm : Value) (an : Option Addr) (cdv ct a0 a1 : Value), bindArgs (PySem.W.fnOf x x (defArgs st) (defBody st) (defScope st) .none kV doc pm an cdv ct) ⟨[a0, a1], []⟩ = pure ([p0, p1].zip [a0, a1]) := by intros; rfl) : Df K mg x st [p0, p1] :=
 df_mk X G d fun _ _ _ _ _ _ us hl => match us, hl with | [_, _], _ => hb _ _ _ _ _ _ _ _
theorem df_3 {K : PySem.W.Frag} {h : Heap} {mg : Str → Option Value} {x : Str} {st : Stmt} {p0 p1 p2 : Str} (X : K.In h) (G : h.Ns mainGlobals mg) (d : D4 K x st) (hb : ∀ (kV doc pm : Value) (an : Option Addr) (cdv ct a0 a1 a2 : Value), bindArgs (PySem.W.fnOf x x (defArgs st) (defBody st) (defScope st) .none kV doc pm an cdv ct) ⟨[a0, a1, a2], []⟩ = pure ([p0, p1, p2].zip [a0, a1, a2]) := by intros; rfl) : Df K mg x st [p0, p1, p2] :=
 df_mk X G d fun _ _ _ _ _ _ us hl => match us, hl with | [_, _, _], _ => hb _ _ _ _ _ _ _ _ _
abbrev FnAt (x : Str) (st : Stmt) (kV dc pm : Value) (an : Option Addr) (cd ct : Value) : FuncData := PySem.W.fnOf x x (defArgs st) (defBody st) (defScope st) .none kV dc pm an cd ct
open PySem.W in
theorem all_mk {l : OpenLaw} {w : World} {K : Frag} {h : Heap} {mg : Str → Option Value} {fa : Addr} (X : K.In h) (G : h.Ns mainGlobals mg) (hfa : mg "law" = some (.ref fa))
  {f : Addr} {od an : Option Addr} {sl : Array (Option Value)} {oc kV dc pm cd ct : Value}
  (a0 : D4 K "_law_draw" s__law_draw)
  (a1 : D4 K "_law_bent_row" s__law_bent_row)
  (a2 : D4 K "_law_bent" s__law_bent)
  (a3 : D4 K "_law_cell" s__law_cell)
  (a4 : D4 K "_law_number" s__law_number)
  (a5 : D4 K "_law_row" s__law_row)
  (a6 : D4 K "_law_is_plant" s__law_is_plant)
  (a7 : D4 K "_law_odd" s__law_odd)
  (a8 : D4 K "_law_pen" s__law_pen)
  (a9 : D4 K "_law_plant" s__law_plant)
  (a10 : D4 K "is_tuple_of" s_is_tuple_of)
  (a11 : D4 K "is_whole" s_is_whole)
  (a12 : D4 K "is_whole_from" s_is_whole_from)
  (a13 : D4 K "is_make_and_coal" s_is_make_and_coal)
  (a14 : D4 K "are_boilers" s_are_boilers)
  (a15 : D4 K "is_engine" s_is_engine)
  (a16 : D4 K "are_engines" s_are_engines)
  (a17 : D4 K "is_main" s_is_main)
  (a18 : D4 K "is_plant" s_is_plant)
  (a : nsIn K mainGlobals "law" = some (some (.ref f))) (l0 : K.lookup f = some ⟨oc, od, .func (FnAt "law" s_law kV dc pm an cd ct), sl⟩) (c : codeIn K cd "law" = true) (k : keepIn K (.ref f) = true)
  (z0 : nsIn K mainGlobals "all" = some none)
  (z1 : nsIn K mainGlobals "bool" = some none)
  (z2 : nsIn K mainGlobals "divmod" = some none)
  (z3 : nsIn K mainGlobals "int" = some none)
  (z4 : nsIn K mainGlobals "isinstance" = some none)
  (z5 : nsIn K mainGlobals "len" = some none)
  (z6 : nsIn K mainGlobals "list" = some none)
  (z7 : nsIn K mainGlobals "max" = some none)
  (z8 : nsIn K mainGlobals "min" = some none)
  (z9 : nsIn K mainGlobals "range" = some none)
  (z10 : nsIn K mainGlobals "repr" = some none)
  (z11 : nsIn K mainGlobals "sorted" = some none)
  (z12 : nsIn K mainGlobals "tuple" = some none)
  (z13 : nsIn K mainGlobals "zip" = some none)
  {t0 : Tok} (q0 : nsIn K mainGlobals "MOST_BOILERS" = some (some (.int 4 t0)))
  {t1 : Tok} (q1 : nsIn K mainGlobals "MOST_ENGINES" = some (some (.int 4 t1)))
  {t2 : Tok} (q2 : nsIn K mainGlobals "MOST_HOURS" = some (some (.int 8 t2)))
  {t3 : Tok} (q3 : nsIn K mainGlobals "MOST_UNITS" = some (some (.int 9 t3)))
  {t4 : Tok} (q4 : nsIn K mainGlobals "MOST_IN_MAIN" = some (some (.int 40 t4)))
  : ∃ fd : FuncData, (∀ (s : Shared) (v : Value), BindsTo s fd ⟨[v], []⟩ [("_law_script", v)]) ∧ ∀ base : Heap, K.In base → base.Ns mainGlobals mg → FnOk l.prog w K mg base CX0 6 fa fd ["_law_script"] (sp_law K) := by
 have e := hfa.symm.trans (PySem.W.mg_of X G a)
 cases e
 have T : Tx mg := ⟨mg_none_of X G z0, mg_none_of X G z1, mg_none_of X G z2, mg_none_of X G z3, mg_none_of X G z4, mg_none_of X G z5, mg_none_of X G z6, mg_none_of X G z7, mg_none_of X G z8, mg_none_of X G z9, mg_none_of X G z10, mg_none_of X G z11, mg_none_of X G z12, mg_none_of X G z13, ⟨_, mg_of X G q0⟩, ⟨_, mg_of X G q1⟩, ⟨_, mg_of X G q2⟩, ⟨_, mg_of X G q3⟩, ⟨_, mg_of X G q4⟩⟩
 have F := fun_mk (st := s_law) l0 c k
 refine ⟨PySem.W.fnOf "law" "law" (defArgs s_law) (defBody s_law) (defScope s_law) .none kV dc pm an cd ct, fun s v => .of_eq rfl, fun base _ _ => ?_⟩
 have B__law_draw := ok__law_draw (P := l.prog) (w := w) (base := base) (df_2 X G a0) T
 have B__law_bent_row := ok__law_bent_row (df_2 X G a1) T B__law_draw
 have B__law_bent := ok__law_bent (df_2 X G a2) T B__law_bent_row B__law_draw
 have B__law_cell := ok__law_cell (P := l.prog) (w := w) (base := base) (df_2 X G a3) T
 have B__law_number := ok__law_number (P := l.prog) (w := w) (base := base) (df_3 X G a4) T
 have B__law_row := ok__law_row (df_2 X G a5) T B__law_number
 have B__law_is_plant := ok__law_is_plant (df_1 X G a6) T B__law_row
 have B__law_odd := ok__law_odd (df_1 X G a7) T B__law_draw
 have B__law_pen := ok__law_pen (P := l.prog) (w := w) (base := base) (df_1 X G a8) T
 have B__law_plant := ok__law_plant (df_1 X G a9) T B__law_draw
 have B_is_tuple_of := ok_is_tuple_of (P := l.prog) (w := w) (base := base) (df_3 X G a10) T
 have B_is_whole := ok_is_whole (P := l.prog) (w := w) (base := base) (df_1 X G a11) T
 have B_is_whole_from := ok_is_whole_from (df_3 X G a12) T B_is_whole
 have B_is_make_and_coal := ok_is_make_and_coal (df_1 X G a13) T B_is_tuple_of B_is_whole_from
 have B_are_boilers := ok_are_boilers (df_1 X G a14) T B_is_make_and_coal B_is_tuple_of
 have B_is_engine := ok_is_engine (df_1 X G a15) T B_is_tuple_of B_is_whole_from
 have B_are_engines := ok_are_engines (df_1 X G a16) T B_is_engine B_is_tuple_of
 have B_is_main := ok_is_main (df_1 X G a17) T B_is_tuple_of B_is_whole_from
 have B_is_plant := ok_is_plant (df_1 X G a18) T B_are_boilers B_are_engines B_is_main B_is_tuple_of
 exact ok_law F T B__law_bent B__law_cell B__law_is_plant B__law_odd B__law_pen B__law_plant B_is_plant
end MF
namespace PySem.W.Fast
def tw7465289310781660243:=0
def tw18313140906804194558:=0
def tw5668108793057682965:=0
def tw11384713194865565317:=0
def tw14576438166663905548:=0
def tw2518298399458896876:=0
def tw10760923914246997356:=0
def tw15789098710801403198:=0
def tw2832227320032565962:=0
def tw7389955476375670881:=0
def tw7248728848872788097:=0
def tw2636463700325546046:=0
def tw13876611657004857834:=0
def tw11741294884541174811:=0
def tw2619650077035857270:=0
def tw2698977209854854123:=0
def tw4079322257895526039:=0
def tw5105721544663611950:=0
def tw3760676463898453937:=0
def tw4422947904117639621:=0
def tw16910472706662481058:=0
def tw14579928433586816784:=0
def tw11218165534327324153:=0
def tw3362591910923219009:=0
def tw14938528996173173840:=0
def tw13899007607865712295:=0
def tw16808888827929953062:=0
def tw13607267964557011200:=0
def tw12157468010848067877:=0
def tw3149315504792795727:=0
def tw13768673566188165858:=0
def tw3334311246348971847:=0
def tw3387549325066995167:=0
def tw9274168923183489091:=0
def tw5286943607318576419:=0
def tw16793617129824401677:=0
def tw4107594608582927333:=0
def tw8196629440137915934:=0
def tw298545581834019027:=0
def tw6052079641083999197:=0
def tw2249182838158710742:=0
def tw9305534508573173364:=0
def tw3933287478774484208:=0
def tw14939148485935010106:=0
def tw3351063892862558311:=0
def tw2507158995869941294:=0
end PySem.W.Fast
open PySem PySem.W PyProof.Rows
set_option maxRecDepth 100000 in
set_option maxHeartbeats 0 in
theorem PySem.Challenge.cw_mainfires_k01_plants_known_holds : PySem.Challenge.rw_mainfires_k01_plants_known.Holds := by
 w_on; o_law; k_head; (case hw => w_witness2)
 k_fill
 refine L2.walk_ofK (l := PySem.Challenge.rw_mainfires_k01_plants_known) (n := 63) (k := 6) (x := "_law_script") (CX := L2.CX0) (sp := MF.sp_law) rfl (by decide) rfl ⟨rfl, by decide, by decide, rfl⟩ (fun w h Y => PySem.W.kIn_of Y) ?F (fun _ _ a ns hl _ hS => ⟨ns, hS, hl, fun _ => rfl⟩) (fun _ _ _ _ z => z)
 case F =>
  intro w mg fa h KX G hmg
  refine' MF.all_mk KX G hmg ?_ ?_ ?_ ?_ ?_ ?_ ?_ ?_ ?_ ?_ ?_ ?_ ?_ ?_ ?_ ?_ ?_ ?_ ?_ ?_ ?_ ?_ ?_ ?_ ?_ ?_ ?_ ?_ ?_ ?_ ?_ ?_ ?_ ?_ ?_ ?_ ?_ ?_ ?_ ?_ ?_ ?_
  all_goals first | refine' MF.d4_mk ?_ ?_ ?_ ?_ | skip
  any_goals k_is

end
