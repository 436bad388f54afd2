import PyProof.Rows.All
import Wide.All
import OpenK.AllK
import Wide.FinOn
import Lean
import PyProof.EqAt
import PyProof.EqKinds
import PyProof.TupleCall
import PyProof.Draws
import PyProof.ZipIter
import PyProof.EnumMake
import PyProof.IsiPairs
import PyProof.IsiHeapPairs
import PyProof.IsiNone
import PyProof.ReprRoads
import PyProof.ConsumeWalk
import PyProof.NeKinds
import PyProof.Rows.SeqMore
import PyProof.Rows.SortWalk
import PyProof.Rows.StrJoinMade
import PyProof.P3Eq
import PyProof.ListRange
import PyProof.CollectIter
import KE.KTryDeep
import PyProof.ExcBaseAll.ValueError
import PyProof.ExcArgsOwn
import PyProof.ExcAttrAll.ValueError
import KE.KLam
import PyProof.DictItemsLoops
import PyProof.DictCompW
import KE.KRevIter
import PyProof.MinMaxWalk
import PyProof.Rows.RowHeap
import PySem.Challenge.RW_mainfires_k33_whole_stretches_and_mains
set_option Elab.async false
set_option linter.all false
set_option maxRecDepth 100000
set_option maxHeartbeats 4000000
section
namespace L2
open PySem PySem.Spec PyProof.Rows
abbrev Key := Sum Int Str
def keyIs : Key → Value → Bool
 | .inl k, v => Value.isInt k v
 | .inr x, v => Value.isStrOf x v
def keyH (w : World) : Key → Int
 | .inl k => hashInt k
 | .inr x => hashStr w x
theorem keyIs_shape : ∀ {k : Key} {v : Value}, keyIs k v = true → (∃ i t, k = Sum.inl i ∧ v = Value.int i t) ∨ (∃ x t, k = Sum.inr x ∧ v = Value.str x t)
 | .inl i, v, h => by
  obtain ⟨t, e⟩ := Value.isInt_shape (k := i) (v := v) h
  exact .inl ⟨i, t, rfl, e⟩
 | .inr x, v, h => by
  obtain ⟨t, e⟩ := Value.isStrOf_shape (x := x) (v := v) h
  exact .inr ⟨x, t, rfl, e⟩
theorem keyIs_int (i : Int) (t : Tok) : keyIs (.inl i) (.int i t) = true := by simp [keyIs, Value.isInt]
theorem keyIs_str (x : Str) (t : Tok) : keyIs (.inr x) (.str x t) = true := by simp [keyIs, Value.isStrOf]
theorem key_ll (a b : Int) : decide ((Sum.inl a : Key) = Sum.inl b) = (a == b) := by
 by_cases e : a = b
 ·subst e; simp
 ·have h : ¬ (Sum.inl a : Key) = Sum.inl b := fun q => e (Sum.inl.inj q)
  rw [decide_eq_false h]
  exact (beq_eq_false_iff_ne.mpr e).symm
theorem key_rr (a b : Str) : decide ((Sum.inr a : Key) = Sum.inr b) = decide (a = b) := by
 by_cases e : a = b
 ·subst e; simp
 ·have h : ¬ (Sum.inr a : Key) = Sum.inr b := fun q => e (Sum.inr.inj q)
  rw [decide_eq_false h, decide_eq_false e]
theorem key_lr (a : Int) (b : Str) : decide ((Sum.inl a : Key) = Sum.inr b) = false := decide_eq_false (fun q => nomatch q)
theorem key_rl (a : Str) (b : Int) : decide ((Sum.inr a : Key) = Sum.inl b) = false := decide_eq_false (fun q => nomatch q)
def mixKind (prog : Program) (w : World) : PySem.KeyKind prog w Key where
 is := keyIs
 hash := keyH w
 inj := fun v a b ha hb => by
  rcases keyIs_shape ha with ⟨i, t, rfl, rfl⟩ | ⟨x, t, rfl, rfl⟩
  ·rcases keyIs_shape hb with ⟨j, u, rfl, e⟩ | ⟨y, u, rfl, e⟩
   ·injection e with e1 _; rw [e1]
   ·exact nomatch e
  ·rcases keyIs_shape hb with ⟨j, u, rfl, e⟩ | ⟨y, u, rfl, e⟩
   ·exact nomatch e
   ·injection e with e1 _; rw [e1]
 byValue := fun k v h => by
  rcases keyIs_shape h with ⟨i, t, rfl, rfl⟩ | ⟨x, t, rfl, rfl⟩ <;> rfl
 pyHash := fun hv h => by
  rcases keyIs_shape hv with ⟨i, t, rfl, rfl⟩ | ⟨x, t, rfl, rfl⟩
  ·exact wpAny_pyHash_int h
  ·exact wpAny_pyHash_str h
 eqBool := fun hu hv h => by
  rcases keyIs_shape hu with ⟨i, t, rfl, rfl⟩ | ⟨x, t, rfl, rfl⟩
  ·rcases keyIs_shape hv with ⟨j, u, rfl, rfl⟩ | ⟨y, u, rfl, rfl⟩
   ·rw [key_ll] at h; exact wpAny_eqBool_int h
   ·rw [key_lr] at h; exact SeqAt.EqAt.int_str i t y u _ _ _ _ h
  ·rcases keyIs_shape hv with ⟨j, u, rfl, rfl⟩ | ⟨y, u, rfl, rfl⟩
   ·rw [key_rl] at h; exact SeqAt.EqAt.str_int x t j u _ _ _ _ h
   ·rw [key_rr] at h; exact wpAny_eqBool_str h
 «strs» := fun k x t v h => by
  rcases keyIs_shape h with ⟨i, u, rfl, e⟩ | ⟨y, u, rfl, e⟩
  ·exact nomatch e
  ·injection e with e1 _
   subst e1
   cases v <;> rfl
theorem mixKind_is (prog : Program) (w : World) (k : Key) (v : Value) : (mixKind prog w).is k v = keyIs k v := rfl
theorem mixKind_int (prog : Program) (w : World) (i : Int) (t : Tok) : (mixKind prog w).is (.inl i) (.int i t) = true := keyIs_int i t
theorem mixKind_str (prog : Program) (w : World) (x : Str) (t : Tok) : (mixKind prog w).is (.inr x) (.str x t) = true := keyIs_str x t
end L2
namespace L2
open PySem PySem.Spec PyProof.Rows
inductive V where
 | non | bl (b : Bool) | int (i : Int) | str (x : Str) | byt (b : Array UInt8) | flt (b : UInt64) | ref (a : Addr) | ty (n : String)
 deriving DecidableEq
def RelV : V → Value → Prop
 | .non, u => u = Value.none
 | .bl b, u => u = Value.bool b
 | .int i, u => ∃ t, u = Value.int i t
 | .str x, u => ∃ t, u = Value.str x t
 | .byt b, u => ∃ t, u = Value.bytes b t
 | .flt b, u => ∃ t, u = Value.float b t
 | .ref a, u => u = Value.ref a
 | .ty n, u => u = Value.type n
abbrev Vals : List V → List Value → Prop := Paired RelV
theorem Vals.length {xs : List V} {us : List Value} (r : Vals xs us) : xs.length = us.length := Paired.length r
theorem Vals.get : ∀ {xs : List V} {us : List Value} {i : Nat} {x : V}, Vals xs us → xs[i]? = some x → ∃ u, us[i]? = some u ∧ RelV x u
 | _, _, _, _, .nil, e => by simp at e
 | _, _, 0, _, .cons r _, e => by simp at e; subst e; exact ⟨_, rfl, r⟩
 | _, _, i + 1, x, .cons _ t, e => by
  obtain ⟨u, h1, h2⟩ := Vals.get (i := i) (x := x) t (by simpa using e)
  exact ⟨u, by simpa using h1, h2⟩
theorem Vals.set {x : V} {u : Value} (r : RelV x u) : ∀ {xs : List V} {us : List Value} (i : Nat), Vals xs us → Vals (xs.set i x) (us.set i u)
 | _, _, _, .nil => .nil
 | _, _, 0, .cons _ t => .cons r t
 | _, _, i + 1, .cons q t => .cons q (Vals.set r i t)
theorem Vals.append : ∀ {xs ys : List V} {us ws : List Value}, Vals xs us → Vals ys ws → Vals (xs ++ ys) (us ++ ws)
 | _, _, _, _, .nil, s => s
 | _, _, _, _, .cons r t, s => .cons r (Vals.append t s)
theorem Vals.take : ∀ {xs : List V} {us : List Value} (n : Nat), Vals xs us → Vals (xs.take n) (us.take n)
 | _, _, 0, _ => .nil
 | _, _, _ + 1, .nil => .nil
 | _, _, n + 1, .cons r t => .cons r (Vals.take n t)
theorem Vals.drop : ∀ {xs : List V} {us : List Value} (n : Nat), Vals xs us → Vals (xs.drop n) (us.drop n)
 | _, _, 0, r => r
 | _, _, _ + 1, .nil => .nil
 | _, _, n + 1, .cons _ t => Vals.drop n t
def RelO : Option V → Option Value → Prop
 | some v, some u => RelV v u
 | none, none => True
 | _, _ => False
def KV {κ : Type} : List (κ × V) → List (κ × Value) → Prop := Paired fun (p : κ × V) (q : κ × Value) => p.1 = q.1 ∧ RelV p.2 q.2
def kV : Key → V
 | .inl i => .int i
 | .inr x => .str x
inductive HO where
 /-- a list -/
 | lst (xs : List V)
 /-- a tuple (never changes) -/
 | tup (xs : List V)
 /-- a dict whose keys are ints and texts; one whose keys are tuples of ints and texts (the empty one is both) -/
 | dK (kvs : List (Key × V)) | dT (kvs : List (List Key × V))
 /-- a set of ints: its members, its size -/
 | set (S : Int → Bool) (n : Nat)
 /-- an instance of the class at C, its dict at dx, its attributes -/
 | ins (C dx : Addr) (fs : List (Str × V))
 /-- the dict of the instance at x -/
 | own (x : Addr)
 /-- the dict of an exception -/
 | xd (fs : List (Str × V))
 /-- a bound method, f of x -/
 | met (f x : Addr)
 /-- a range object lo, lo + 1, .. below hi -/
 | rng (lo hi : Int)
 /-- a thing that is known to the object (the script; a dict while a loop walks it): read, never written while it is so -/
 | frz (o : Obj) (u : HO)
 /-- a code object's table -/
 | tbl (ps : Array Value)
 /-- any other thing, by what is true of its one object (a def of one's own: SetO a S n := HO.ext fun h => ..) -/
 | ext (φ : Heap → Prop)
abbrev Hp := Addr → Option HO
def upd (H : Hp) (a : Addr) (o : HO) : Hp := fun b => if b = a then some o else H b
theorem upd_same {H : Hp} {a : Addr} {o : HO} : upd H a o a = some o := by unfold upd; rw [if_pos rfl]
theorem upd_ne {H : Hp} {a b : Addr} {o : HO} (h : b ≠ a) : upd H a o b = H b := by unfold upd; rw [if_neg h]
theorem ne_of {H : Hp} {a b : Addr} {o u : HO} (h : H a = some o) (h' : H b = some u) (d : o ≠ u) : a ≠ b := by
 intro e; subst e; rw [h] at h'; exact d (Option.some.inj h')
theorem ne_of_none {H : Hp} {a b : Addr} {o : HO} (h : H a = some o) (h' : H b = none) : a ≠ b := by
 intro e; subst e; rw [h] at h'; cases h'
section
variable (P : Program) (w : World)
def ObjOk (H : Hp) (h : Heap) (a : Addr) : HO → Prop
 | .lst xs => xs.length ≤ sizeLine ∧ ∃ (its : List Value) (n : Nat), Vals xs its ∧ h.get? a = some { cls := .type "list", data := .seq its.toArray n }
 | .tup xs => xs.length ≤ sizeLine ∧ ∃ its : List Value, Vals xs its ∧ IsTup h a its.toArray
 | .dK kvs => kvs.length ≤ sizeLine ∧ (a == sysModules) = false ∧ ∃ vs, KV kvs vs ∧ h.DictOf (mixKind P w) a vs
 | .dT kvs => kvs.length ≤ sizeLine ∧ (a == sysModules) = false ∧ ∃ xs : List (List Key × Addr × Value),
   Paired (fun (p : List Key × V) (q : List Key × Addr × Value) => p.1 = q.1 ∧ H q.2.1 = some (.tup (p.1.map kV)) ∧ RelV p.2 q.2.2) kvs xs ∧
   ∃ o es ep, h.get? a = some o ∧ o.ExactDict ∧ o.data = .dict es ep ∧ es.toList = xs.map (entryOfKey (tupleKind (mixKind P w))) ∧ (xs.map (·.1)).Nodup
 | .set S n => h.SetOf (intKind P w) a S n
 | .ins C dx fs => H dx = some (.own a) ∧ fs.length ≤ 1000 ∧ dx ≠ a ∧ h.get? a = some (PySem.W.instObj C dx) ∧
   ∃ mA, h.Ns1 dx mA ∧ (∀ f, RelO (fs.lookup f) (mA f)) ∧ PySem.Within mA (fs.map (·.1))
 | .own _ => ∃ o, h.get? a = some o
 | .xd fs => ∃ mA, h.Ns1 a mA ∧ ∀ f, RelO (fs.lookup f) (mA f)
 | .rng lo hi => ∃ t u v, h.get? a = some { cls := .type "range", data := .fields #[.int lo t, .int hi u, .int 1 v] }
 | .frz o u => h.get? a = some o ∧ ObjOk H h a u
 | .tbl ps => h.get? a = some { cls := .none, data := .fields ps }
 | .met f x => h.get? a = some (PySem.W.methodObj (.ref f) (.ref x))
 | .ext φ => φ h ∧ (∃ o, h.get? a = some o) ∧ ∀ h1 h2 : Heap, φ h1 → (∀ o, h1.get? a = some o → h2.get? a = some o) → φ h2
def HOk (H : Hp) (h : Heap) : Prop := ∀ a o, H a = some o → ObjOk P w H h a o
end
section
variable {P : Program} {w : World} {H H' : Hp} {h h' : Heap} {a : Addr} {o : HO}
theorem ObjOk.lt (x : ObjOk P w H h a o) : a < h.objs.size := by
 cases o with
 | lst xs => obtain ⟨_, _, _, _, e⟩ := x; exact Heap.lt_size e
 | tup xs => obtain ⟨_, _, _, p⟩ := x; exact p.lt
 | dK kvs => obtain ⟨_, _, _, _, o, _, _, e, _⟩ := x; exact Heap.lt_size e
 | dT kvs => obtain ⟨_, _, _, _, o, _, _, e, _⟩ := x; exact Heap.lt_size e
 | set S n => obtain ⟨o, _, _, _, e, _⟩ := x; exact Heap.lt_size e
 | ins C dx fs => obtain ⟨_, _, _, e, _⟩ := x; exact Heap.lt_size e
 | own y => obtain ⟨_, e⟩ := x; exact Heap.lt_size e
 | xd fs => obtain ⟨_, ⟨_, _, _, e, _⟩, _⟩ := x; exact Heap.lt_size e
 | rng lo hi => obtain ⟨_, _, _, e⟩ := x; exact Heap.lt_size e
 | frz ob u => obtain ⟨e, _⟩ := x; exact Heap.lt_size e
 | tbl ps => exact Heap.lt_size (show h.get? a = some _ from x)
 | met f y => exact Heap.lt_size (show h.get? a = some _ from x)
 | ext φ => obtain ⟨_, ⟨_, e⟩, _⟩ := x; exact Heap.lt_size e
theorem Paired.mapP {α β : Type} {F G : α → β → Prop} : ∀ {l₁ : List α} {l₂ : List β}, Paired F l₁ l₂ → (∀ a b, F a b → G a b) → Paired G l₁ l₂
 | _, _, .nil, _ => .nil
 | _, _, .cons r t, f => .cons (f _ _ r) (Paired.mapP t f)
theorem ObjOk.stay (x : ObjOk P w H h a o) (k : ∀ b u, (b = a ∨ H b = some (.own a)) → h.get? b = some u → h'.get? b = some u)
  (ho : ∀ b, H b = some (.own a) → H' b = some (.own a)) (ht : ∀ b xs, H b = some (.tup xs) → H' b = some (.tup xs)) : ObjOk P w H' h' a o := by
 induction o with
 | lst xs => obtain ⟨z, its, n, r, e⟩ := x; exact ⟨z, its, n, r, k _ _ (.inl rfl) e⟩
 | tup xs => obtain ⟨z, its, r, ob, e, c⟩ := x; exact ⟨z, its, r, ob, k _ _ (.inl rfl) e, c⟩
 | dK kvs => obtain ⟨z, y, vs, r, ob, es, ep, e, c⟩ := x; exact ⟨z, y, vs, r, ob, es, ep, k _ _ (.inl rfl) e, c⟩
 | dT kvs =>
  obtain ⟨z, y, xs, r, ob, es, ep, e, c⟩ := x
  exact ⟨z, y, xs, Paired.mapP r fun p q z => ⟨z.1, ht _ _ z.2.1, z.2.2⟩, ob, es, ep, k _ _ (.inl rfl) e, c⟩
 | set S n => obtain ⟨ob, es, ep, t, e, c⟩ := x; exact ⟨ob, es, ep, t, k _ _ (.inl rfl) e, c⟩
 | ins C dx fs =>
  obtain ⟨d, z, ne, e, mA, ⟨od, es, ep, e2, c⟩, r⟩ := x
  exact ⟨ho _ d, z, ne, k _ _ (.inl rfl) e, mA, ⟨od, es, ep, k _ _ (.inr d) e2, c⟩, r⟩
 | own y => obtain ⟨ob, e⟩ := x; exact ⟨ob, k _ _ (.inl rfl) e⟩
 | xd fs => obtain ⟨mA, ⟨od, es, ep, e, c⟩, r⟩ := x; exact ⟨mA, ⟨od, es, ep, k _ _ (.inl rfl) e, c⟩, r⟩
 | rng lo hi => obtain ⟨t, u, v, e⟩ := x; exact ⟨t, u, v, k _ _ (.inl rfl) e⟩
 | frz ob u ih => obtain ⟨e, q⟩ := x; exact ⟨k _ _ (.inl rfl) e, ih q⟩
 | tbl ps =>
  have e : h.get? a = some { cls := .none, data := .fields ps } := x
  show h'.get? a = some { cls := .none, data := .fields ps }
  exact k a _ (.inl rfl) e
 | met f y =>
  have e : h.get? a = some (PySem.W.methodObj (.ref f) (.ref y)) := x
  show h'.get? a = some (PySem.W.methodObj (.ref f) (.ref y))
  exact k a _ (.inl rfl) e
 | ext φ => obtain ⟨p, ⟨o, e⟩, st⟩ := x; exact ⟨st _ _ p fun o q => k _ _ (.inl rfl) q, ⟨o, k _ _ (.inl rfl) e⟩, st⟩
theorem HOk.lt (x : HOk P w H h) (e : H a = some o) : a < h.objs.size := (x a o e).lt
theorem HOk.fresh (x : HOk P w H h) (e : h.objs.size ≤ a) : H a = none := by
 cases q : H a with
 | none => rfl
 | some u => exact absurd (Nat.lt_of_lt_of_le (x.lt q) e) (Nat.lt_irrefl _)
theorem HOk.kept (x : HOk P w H h) (k : ∀ b u, h.get? b = some u → h'.get? b = some u) : HOk P w H h' := fun a o e =>
 (x a o e).stay (fun b u _ q => k b u q) (fun _ q => q) fun _ _ q => q
theorem HOk.laid (x : HOk P w H h) (k : ∀ b u, h.get? b = some u → h'.get? b = some u) (hp : h.objs.size ≤ a) (new : ObjOk P w (upd H a o) h' a o) : HOk P w (upd H a o) h' := fun b u e => by
 have hn := x.fresh hp
 by_cases hb : b = a
 ·subst hb; rw [upd_same] at e; cases e; exact new
 ·rw [upd_ne hb] at e
  exact (x b u e).stay (fun c v _ q => k c v q) (fun c q => by rw [upd_ne (ne_of_none q hn)]; exact q) fun c xs q => by rw [upd_ne (ne_of_none q hn)]; exact q
end
def Rd (H : Hp) (a : Addr) (u : HO) : Prop := H a = some u ∨ ∃ o, H a = some (.frz o u)
theorem Rd.ok {P : Program} {w : World} {H : Hp} {h : Heap} {a : Addr} {u : HO} (r : Rd H a u) (x : HOk P w H h) : ObjOk P w H h a u := by
 rcases r with r | ⟨o, r⟩
 ·exact x a u r
 ·obtain ⟨_, q⟩ := x a _ r
  exact q
def Mut : Option HO → Prop
 | some (.lst _) => True
 | some (.dK _) => True
 | some (.dT _) => True
 | some (.set _ _) => True
 | some (.ins _ _ _) => True
 | some (.ext _) => True
 | _ => False
section
variable {P : Program} {w : World} {H : Hp} {h h' : Heap} {x e : Addr} {o' : HO}
theorem HOk.write (ok : HOk P w H h) (mu : Mut (H x)) (he : e = x ∨ H e = some (.own x)) (k : ∀ b u, b ≠ e → h.get? b = some u → h'.get? b = some u) (heo : ∃ u, h'.get? e = some u)
  (new : ObjOk P w (upd H x o') h' x o') : HOk P w (upd H x o') h' := fun b u q => by
 have nown : ∀ c y, H c = some (.own y) → c ≠ x := fun c y r z => by subst z; rw [r] at mu; exact mu
 have ntup : ∀ c xs, H c = some (.tup xs) → c ≠ x := fun c xs r z => by subst z; rw [r] at mu; exact mu
 by_cases hb : b = x
 ·subst hb; rw [upd_same] at q; cases q; exact new
 ·rw [upd_ne hb] at q
  by_cases hbe : b = e
  ·have q' : H b = some (.own x) := by
    rcases he with z | z
    ·exact absurd (hbe.trans z) hb
    ·rw [hbe]; exact z
   rw [q] at q'; cases q'
   obtain ⟨v, hv⟩ := heo
   exact ⟨v, by rw [hbe]; exact hv⟩
  ·refine (ok b u q).stay (fun c v hc r => k c v ?_ r) (fun c r => by rw [upd_ne (nown c b r)]; exact r) fun c xs r => by rw [upd_ne (ntup c xs r)]; exact r
   rcases hc with rfl | hc
   ·exact hbe
   ·rintro rfl
    rcases he with z | z
    ·exact nown c b hc z
    ·rw [hc] at z; cases z; exact hb rfl
end
structure Un (fs ex : List Addr) (H H' : Hp) (h h' : Heap) : Prop where
 keep : ∀ b o, h.get? b = some o → H b = none → b ∉ fs → b ∉ ex → h'.get? b = some o
 slot : ∀ b o, h.get? b = some o → H b = none → b ∈ fs → b ∉ ex → ∃ sl, h'.get? b = some { o with slots := sl }
 free : ∀ b o, h.get? b = some o → H b = none → b ∉ ex → H' b = none
 there : ∀ b o, h.get? b = some o → b ∉ ex → ∃ o', h'.get? b = some o'
 tups : ∀ b xs, H b = some (.tup xs) → H' b = some (.tup xs)
 frzs : ∀ b o u, H b = some (.frz o u) → H' b = some (.frz o u)
 tbls : ∀ b ps, H b = some (.tbl ps) → ∃ more, H' b = some (.tbl (ps ++ more))
section
variable {fs fs' ex ex' : List Addr} {H H1 H2 : Hp} {h h1 h2 h' : Heap} {a x e : Addr} {o : HO}
theorem Un.any (u : Un fs ex H H1 h h1) {b : Addr} {ob : Obj} (q : h.get? b = some ob) (n : H b = none) (hx : b ∉ ex) : ∃ sl, h1.get? b = some { ob with slots := sl } := by
 by_cases hb : b ∈ fs
 ·exact u.slot b ob q n hb hx
 ·exact ⟨ob.slots, u.keep b ob q n hb hx⟩
theorem Un.kept (k : ∀ b u, h.get? b = some u → h'.get? b = some u) : Un fs ex H H h h' :=
 ⟨fun b ob q _ _ _ => k b ob q, fun b ob q _ _ _ => ⟨ob.slots, k b ob q⟩, fun _ _ _ n _ => n, fun b ob q _ => ⟨ob, k b ob q⟩, fun _ _ q => q, fun _ _ _ q => q, fun _ ps q => ⟨#[], by rw [q]; simp⟩⟩
theorem Un.refl : Un fs ex H H h h := Un.kept fun _ _ q => q
theorem Un.laid (k : ∀ b u, h.get? b = some u → h'.get? b = some u) (hp : h.objs.size ≤ a) (hn : H a = none) : Un fs ex H (upd H a o) h h' where
 keep := fun b u q _ _ _ => k b u q
 slot := fun b u q _ _ _ => ⟨u.slots, k b u q⟩
 free := fun b u q n _ => by rw [upd_ne (Nat.ne_of_lt (Nat.lt_of_lt_of_le (Heap.lt_size q) hp))]; exact n
 there := fun b u q _ => ⟨u, k b u q⟩
 tups := fun b xs q => by rw [upd_ne (ne_of_none q hn)]; exact q
 frzs := fun b u xs q => by rw [upd_ne (ne_of_none q hn)]; exact q
 tbls := fun b ps q => ⟨#[], by rw [upd_ne (ne_of_none q hn), q]; simp⟩
theorem Un.write (mu : Mut (H x)) (he : e = x ∨ H e = some (.own x)) (k : ∀ b u, b ≠ e → h.get? b = some u → h'.get? b = some u) (heo : ∃ u, h'.get? e = some u) : Un fs ex H (upd H x o) h h' := by
 have hx : ∀ b, H b = none → b ≠ x := fun b n z => by subst z; rw [n] at mu; exact mu
 have hb : ∀ b, H b = none → b ≠ e := fun b n z => by
  subst z
  rcases he with r | r
  ·exact hx b n r
  ·rw [n] at r; cases r
 have hm : ∀ b u, H b = some u → ¬ Mut (some u) → b ≠ x := fun b u q nm z => by subst z; rw [q] at mu; exact nm mu
 refine ⟨fun b u q n _ _ => k b u (hb b n) q, fun b u q n _ _ => ⟨u.slots, k b u (hb b n) q⟩, fun b u q n _ => by rw [upd_ne (hx b n)]; exact n, fun b u q _ => ?_,
  fun b xs q => by rw [upd_ne (hm b _ q fun z => z)]; exact q, fun b u xs q => by rw [upd_ne (hm b _ q fun z => z)]; exact q, fun b ps q => ⟨#[], by rw [upd_ne (hm b _ q fun z => z), q]; simp⟩⟩
 by_cases hbe : b = e
 ·subst hbe; exact heo
 ·exact ⟨u, k b u hbe q⟩
end
def trk (h : Heap) (H : Hp) : List Addr := (List.range h.objs.size).filter fun a => (H a).isSome
def hidT (h : Heap) (H : Hp) : Heap := PySem.W.hideAll h (trk h H)
theorem hidT_size (h : Heap) (H : Hp) : (hidT h H).objs.size = h.objs.size := PySem.W.hideAll_size _ _
theorem hidT_get {h : Heap} {H : Hp} {b : Addr} {o : Obj} (e : h.get? b = some o) (n : H b = none) : (hidT h H).get? b = some o :=
 PySem.W.hideAll_get _ e fun hm => by
  have q : (H b).isSome = true := (List.mem_filter.mp hm).2
  rw [n] at q; simp at q
theorem of_hidT {h : Heap} {H : Hp} {b : Addr} {o : Obj} (e : (hidT h H).get? b = some o) : h.get? b = some o ∧ H b = none := by
 have e' : h.get? b = some o := PySem.W.of_hideAll (trk h H) e
 refine ⟨e', ?_⟩
 cases q : H b with
 | none => rfl
 | some x =>
  have hm : b ∈ trk h H := List.mem_filter.mpr ⟨List.mem_range.mpr (Heap.lt_size e'), by simp [q]⟩
  have z : (hidT h H).get? b = none := PySem.W.hideAll_none (trk h H) hm
  rw [z] at e; cases e
def allNews (g h : Heap) (L : Addr) : List (Addr × Obj) := (List.range h.objs.size).filterMap fun a => if a = L ∨ (g.get? a).isSome = true then none else (h.get? a).map fun o => (a, o)
def rest (g h : Heap) (L d : Addr) : List (Addr × Obj) := (allNews g h L).filter fun p => decide (p.1 ≠ d)
end L2
namespace L2
open PySem PySem.Spec PyProof.Rows
structure Mod (K : PySem.W.Frag) (mg : Str → Option Value) (base : Heap) : Prop where
 kin : K.In base
 glob : base.Ns mainGlobals mg
 blt : ∃ mb, base.Ns builtinsNs mb ∧ ∀ x : Str, x ≠ "__name__" → mb x = bootBuiltins x
 nolimit : base.NoLimit
structure Cx where
 prog : Program
 w : World
 K : PySem.W.Frag
 mg : Str → Option Value
 base : Heap
 A : Around
 N : List Str
 s₀ : Shared
 H₀ : Hp
 env : Env
 outer : List Env
 stack : List Env
 ex : List Addr
 fn : Str → Bool
 calm : Bool
 pn : List (Addr × Obj)
 xe : Value → Shared → Prop
def frs (l : List Env) : List Addr := l.filterMap (·.frame)
abbrev Cx.fs (X : Cx) : List Addr := frs X.outer
def Vis (sc : Scope) (x : Str) : Prop := sc.names.lookup x = some .local ∨ sc.names.lookup x = some .cell ∨ sc.names.lookup x = some .free
def Loc (sc : Scope) (x : Str) : Prop := sc.names.lookup x = some .local ∨ sc.names.lookup x = some .cell
def Look (env : Env) (h : Heap) (m : Str → Option Value) (x : Str) (u : Value) : Prop :=
 (env.kindOf x = some .local ∧ m x = some u) ∨ ((env.kindOf x = some .cell ∨ env.kindOf x = some .free) ∧ ∃ c, env.cells.lookup x = some c ∧ h.IsCell c (some u))
structure Cx.Ok (X : Cx) : Prop where
 mod : Mod X.K X.mg X.base
 kind : X.env.scope.kind = .function
 glob : X.env.globals = mainGlobals
 blt : X.env.builtins = builtinsNs
 above : X.s₀.heap.objs.size ≤ X.env.locals
 inj : ∀ x y c, X.env.cells.lookup x = some c → X.env.cells.lookup y = some c → x = y
 has : ∀ x, (X.env.kindOf x = some .cell ∨ X.env.kindOf x = some .free) → ∃ c, X.env.cells.lookup x = some c
 cab : ∀ x c, X.fn x = true → X.env.cells.lookup x = some c → X.s₀.heap.objs.size ≤ c
 hd : X.calm = true → X.A.handled = none
 frames : X.A.frames = some X.stack
 stk : X.stack = X.outer ∨ (X.stack = X.env :: X.outer ∧ X.env.frame = some X.env.locals)
 exf : ∀ b ∈ X.ex, b ≠ X.env.locals ∧ ∀ x c, X.env.cells.lookup x = some c → c ≠ b
 bs : ∀ b o, X.base.get? b = some o → X.s₀.heap.get? b = some o ∧ X.H₀ b = none
 bsz : X.base.objs.size ≤ X.s₀.heap.objs.size
 noex : ∀ b o, X.base.get? b = some o → b ∉ X.ex
 exfs : ∀ b ∈ X.ex, b ∉ X.fs
 funs : X.s₀.heap.FunFrames X.base X.outer
 frf : ∀ b ∈ X.fs, X.H₀ b = none
structure Inv (X : Cx) (pins : List (Addr × Obj)) (σ : List (Option V)) (H : Hp) (s : Shared) : Prop where
 ok : X.Ok
 os : s.os = X.s₀.os
 bare : AllBare s.gens
 base : Un X.fs X.ex X.H₀ H X.s₀.heap s.heap
 loc : ∃ m, s.heap.Ns X.env.locals m ∧ ∀ (i : Nat) (x : Str) (v : V), X.N[i]? = some x → σ[i]? = some (some v) → Vis X.env.scope x → ∃ u, RelV v u ∧ Look X.env s.heap m x u
 cell : ∀ x c, X.env.cells.lookup x = some c → ∃ v, s.heap.IsCell c v
 free : H X.env.locals = none
 freeC : ∀ x c, X.env.cells.lookup x = some c → H c = none
 pin : ∀ p ∈ X.pn ++ pins, s.heap.get? p.1 = some p.2 ∧ H p.1 = none ∧ p.1 ≠ X.env.locals ∧ p.1 ∉ X.fs ∧ ∀ v, p.2.data ≠ .cell v
 hok : HOk X.prog X.w H s.heap
 len : σ.length = X.N.length
section
variable {X : Cx} {pins : List (Addr × Obj)} {σ : List (Option V)} {H H' : Hp} {s : Shared} {h' : Heap}
theorem Cx.Ok.nofr (ok : X.Ok) {b : Addr} {o : Obj} (e : X.base.get? b = some o) : b ∉ X.fs := fun hb => by
 have := (ok.funs.mem hb).1
 rw [e] at this; cases this
theorem Inv.bs (I : Inv X pins σ H s) : ∀ b o, X.base.get? b = some o → s.heap.get? b = some o ∧ H b = none := fun b o e =>
 ⟨I.base.keep b o (I.ok.bs b o e).1 (I.ok.bs b o e).2 (I.ok.nofr e) (I.ok.noex b o e), I.base.free b o (I.ok.bs b o e).1 (I.ok.bs b o e).2 (I.ok.noex b o e)⟩
theorem Inv.bk (I : Inv X pins σ H s) : ∀ b o, X.base.get? b = some o → s.heap.get? b = some o := fun b o e => (I.bs b o e).1
theorem Inv.mod (I : Inv X pins σ H s) : Mod X.K X.mg X.base := I.ok.mod
theorem Inv.kIn (I : Inv X pins σ H s) : X.K.In s.heap := I.ok.mod.kin.keeps I.bk
theorem Inv.fr (I : Inv X pins σ H s) : ∃ m, Fr X.base X.env.locals s.heap m :=
 let ⟨m, hn, _⟩ := I.loc
 ⟨m, hn, I.bk, Nat.le_trans I.ok.bsz I.ok.above⟩
theorem Inv.lt (I : Inv X pins σ H s) : X.env.locals < s.heap.objs.size := let ⟨_, hn, _⟩ := I.loc; hn.lt
theorem Inv.sz (I : Inv X pins σ H s) : X.s₀.heap.objs.size ≤ s.heap.objs.size := Nat.le_trans I.ok.above (Nat.le_of_lt I.lt)
theorem Inv.nofs (I : Inv X pins σ H s) {a : Addr} (h : s.heap.objs.size ≤ a) : a ∉ X.fs := fun hb => by
 obtain ⟨_, o, ho, _⟩ := I.ok.funs.mem hb
 exact absurd (Nat.lt_of_lt_of_le (Heap.lt_size ho) (Nat.le_trans I.sz h)) (Nat.lt_irrefl _)
theorem Inv.cne (I : Inv X pins σ H s) : ∀ x c, X.env.cells.lookup x = some c → c ≠ X.env.locals := fun x c e z => by
 obtain ⟨v, o, ho, hd⟩ := I.cell x c e
 obtain ⟨m, ⟨o', es, ep, ho', hd', _⟩, _⟩ := I.loc
 rw [z, ho'] at ho; cases ho; rw [hd'] at hd; cases hd
theorem Inv.funs (I : Inv X pins σ H s) : s.heap.FunFrames X.base X.outer := by
 have all : ∀ (l : List Env), (∀ b ∈ frs l, b ∈ X.fs) → X.s₀.heap.FunFrames X.base l → s.heap.FunFrames X.base l := by
  intro l
  induction l with
  | nil => intro _ _; trivial
  | cons env r ih =>
   intro hs hl
   obtain ⟨hk, ⟨L, o, hf, hn, ho, hd⟩, hr⟩ := hl
   have hL : L ∈ X.fs := hs L (by unfold frs; rw [List.filterMap_cons, hf]; exact List.mem_cons_self)
   obtain ⟨sl, e⟩ := I.base.slot L o ho (I.ok.frf L hL) hL fun z => I.ok.exfs L z hL
   exact ⟨hk, ⟨L, _, hf, hn, e, hd⟩, ih (fun b hb => hs b (by unfold frs; rw [List.filterMap_cons, hf]; exact List.mem_cons_of_mem _ hb)) hr⟩
 exact all X.outer (fun _ hb => hb) I.ok.funs
theorem Inv.stack (I : Inv X pins σ H s) : s.heap.FunFrames X.base X.stack := by
 rcases I.ok.stk with e | ⟨e, hf⟩
 ·rw [e]; exact I.funs
 ·rw [e]
  obtain ⟨m, hn, _⟩ := I.loc
  refine .cons (by rw [I.ok.kind]; decide) hf hn ?_ I.funs
  exact Heap.get?_none_of_le (Nat.le_trans I.ok.bsz I.ok.above)
theorem Inv.stkSub (I : Inv X pins σ H s) : ∀ b ∈ frs X.stack, b ∈ X.env.locals :: X.fs := fun b hb => by
 rcases I.ok.stk with e | ⟨e, hf⟩
 ·rw [e] at hb; exact List.mem_cons_of_mem _ hb
 ·rw [e] at hb
  unfold frs at hb
  rw [List.filterMap_cons, hf] at hb
  exact hb
theorem Inv.stkFree (I : Inv X pins σ H s) : ∀ b ∈ frs X.stack, H b = none := fun b hb => by
 rcases List.mem_cons.mp (I.stkSub b hb) with e | hb
 ·rw [e]; exact I.free
 ·obtain ⟨_, o, ho, _⟩ := I.ok.funs.mem hb
  exact I.base.free b o ho (I.ok.frf b hb) fun z => I.ok.exfs b z hb
theorem Inv.step {g' : Array GenState} {t' : Nat} {d' : Drawn} {ch : List Addr} (I : Inv X pins σ H s)
  (hch : ∀ b ∈ ch, (b ∈ X.ex ∨ X.s₀.heap.objs.size ≤ b) ∧ b ≠ X.env.locals ∧ (∀ x c, X.env.cells.lookup x = some c → c ≠ b) ∧ ∀ p ∈ X.pn ++ pins, p.1 ≠ b)
  (keep : ∀ b o, b ≠ X.env.locals → b ∉ X.fs → b ∉ ch → s.heap.get? b = some o → H b = none → h'.get? b = some o)
  (slot : ∀ b o, b ≠ X.env.locals → b ∈ X.fs → b ∉ ch → s.heap.get? b = some o → H b = none → ∃ sl, h'.get? b = some { o with slots := sl }) (free : ∀ b o, b ∉ ch → s.heap.get? b = some o → H b = none → H' b = none)
  (there : ∀ b o, b ∉ ch → s.heap.get? b = some o → ∃ o', h'.get? b = some o')
  (tups : ∀ b xs, H b = some (.tup xs) → H' b = some (.tup xs)) (frzs : ∀ b o u, H b = some (.frz o u) → H' b = some (.frz o u)) (tbls : ∀ b ps, H b = some (.tbl ps) → ∃ more, H' b = some (.tbl (ps ++ more)))
  (ns : ∀ m, s.heap.Ns X.env.locals m → h'.Ns X.env.locals m) (hok : HOk X.prog X.w H' h') (hg : AllBare g') :
  Inv X pins σ H' { s with heap := h', gens := g', drawn := d', toks := t' } := by
 have neL : ∀ b o, X.s₀.heap.get? b = some o → b ≠ X.env.locals := fun b o e => Nat.ne_of_lt (Nat.lt_of_lt_of_le (Heap.lt_size e) I.ok.above)
 have neC : ∀ b o, X.s₀.heap.get? b = some o → b ∉ X.ex → b ∉ ch := fun b o e hx hb => by
  rcases (hch b hb).1 with z | z
  ·exact hx z
  ·exact absurd (Nat.lt_of_lt_of_le (Heap.lt_size e) z) (Nat.lt_irrefl _)
 have cellK : ∀ x c, X.env.cells.lookup x = some c → ∀ v, s.heap.IsCell c v → h'.IsCell c v := fun x c e v ⟨o, ho, hd⟩ => by
  have nch : c ∉ ch := fun z => (hch c z).2.2.1 x c e rfl
  by_cases hc : c ∈ X.fs
  ·obtain ⟨sl, q⟩ := slot c o (I.cne x c e) hc nch ho (I.freeC x c e)
   exact ⟨_, q, hd⟩
  ·exact ⟨o, keep c o (I.cne x c e) hc nch ho (I.freeC x c e), hd⟩
 refine ⟨I.ok, I.os, hg, ⟨fun b o e n hb hx => ?_, fun b o e n hb hx => ?_, fun b o e n hx => ?_, fun b o e hx => ?_, fun b xs e => tups b xs (I.base.tups b xs e), fun b o xs e => frzs b o xs (I.base.frzs b o xs e), fun b ps e => ?_⟩, ?_, fun x c e => ?_, ?_, fun x c e => ?_, fun p hp => ?_, hok, I.len⟩
 ·exact keep b o (neL b o e) hb (neC b o e hx) (I.base.keep b o e n hb hx) (I.base.free b o e n hx)
 ·obtain ⟨sl, e1⟩ := I.base.slot b o e n hb hx
  obtain ⟨sl', e2⟩ := slot b _ (neL b o e) hb (neC b o e hx) e1 (I.base.free b o e n hx)
  exact ⟨sl', e2⟩
 ·obtain ⟨o', e1⟩ := I.base.there b o e hx
  exact free b o' (neC b o e hx) e1 (I.base.free b o e n hx)
 ·obtain ⟨o', e1⟩ := I.base.there b o e hx
  exact there b o' (neC b o e hx) e1
 ·obtain ⟨m1, e1⟩ := I.base.tbls b ps e
  obtain ⟨m2, e2⟩ := tbls b _ e1
  exact ⟨m1 ++ m2, by rw [e2, Array.append_assoc]⟩
 ·obtain ⟨m, hn, hl⟩ := I.loc
  refine ⟨m, ns m hn, fun i x v e1 e2 e3 => ?_⟩
  obtain ⟨u, r, l⟩ := hl i x v e1 e2 e3
  refine ⟨u, r, ?_⟩
  rcases l with l | ⟨k, c, e, z⟩
  ·exact .inl l
  ·exact .inr ⟨k, c, e, cellK x c e _ z⟩
 ·obtain ⟨v, z⟩ := I.cell x c e
  exact ⟨v, cellK x c e v z⟩
 ·obtain ⟨m, ⟨o, _, _, ho, _⟩, _⟩ := I.loc
  exact free _ o (fun z => (hch _ z).2.1 rfl) ho I.free
 ·obtain ⟨v, o, ho, hd⟩ := I.cell x c e
  exact free c o (fun z => (hch c z).2.2.1 x c e rfl) ho (I.freeC x c e)
 ·obtain ⟨e, n, ne, nf, d⟩ := I.pin p hp
  have nch : p.1 ∉ ch := fun z => (hch p.1 z).2.2.2 p hp rfl
  exact ⟨keep p.1 p.2 ne nf nch e n, free p.1 p.2 nch e n, ne, nf, d⟩
theorem Inv.un {t' : Nat} (I : Inv X pins σ H s) (u : Un X.fs [] H H' s.heap h') (hok : HOk X.prog X.w H' h') : Inv X pins σ H' { s with heap := h', toks := t' } := by
 obtain ⟨m, ⟨o, es, ep, ho, r⟩, _⟩ := id I.loc
 obtain ⟨sl, hL⟩ := u.any ho I.free (by simp)
 exact I.step (g' := s.gens) (d' := s.drawn) (ch := []) (fun _ z => nomatch z) (fun b o _ hb _ e n => u.keep b o e n hb (by simp)) (fun b o _ hb _ e n => u.slot b o e n hb (by simp)) (fun b o _ e n => u.free b o e n (by simp)) (fun b o _ e => u.there b o e (by simp)) u.tups u.frzs u.tbls (fun m' hm => by
  obtain ⟨o', es', ep', ho', r'⟩ := hm
  rw [ho] at ho'; cases ho'
  exact ⟨_, es', ep', hL, r'⟩) hok I.bare
theorem Inv.call {g' : Array GenState} {t' : Nat} {d' : Drawn} {ch : List Addr} (I : Inv X pins σ H s) (u : Un (frs X.stack) ch H H' s.heap h') (hok : HOk X.prog X.w H' h') (hg : AllBare g')
  (hch : ∀ b ∈ ch, (b ∈ X.ex ∨ X.s₀.heap.objs.size ≤ b) ∧ b ≠ X.env.locals ∧ (∀ x c, X.env.cells.lookup x = some c → c ≠ b) ∧ ∀ p ∈ X.pn ++ pins, p.1 ≠ b) :
  Inv X pins σ H' { s with heap := h', gens := g', drawn := d', toks := t' } := by
 obtain ⟨m, ⟨o, es, ep, ho, r⟩, _⟩ := id I.loc
 obtain ⟨sl, hL⟩ := u.any ho I.free fun z => (hch _ z).2.1 rfl
 exact I.step (ch := ch) hch (fun b o hL hb hc e n => u.keep b o e n (fun z => (List.mem_cons.mp (I.stkSub b z)).elim hL hb) hc) (fun b o _ _ hc e n => u.any e n hc) (fun b o hc e n => u.free b o e n hc) (fun b o hc e => u.there b o e hc) u.tups u.frzs u.tbls (fun m' hm => by
  obtain ⟨o', es', ep', ho', r'⟩ := hm
  rw [ho] at ho'; cases ho'
  exact ⟨_, es', ep', hL, r'⟩) hok hg
theorem Inv.turned {t' : Nat} {it : Addr} (I : Inv X pins σ H s) (k : ∀ b o, b ≠ it → s.heap.get? b = some o → h'.get? b = some o) (hn : H it = none) (hL : it ≠ X.env.locals)
  (h1 : it ∈ X.ex ∨ X.s₀.heap.objs.size ≤ it) (h2 : ∀ x c, X.env.cells.lookup x = some c → c ≠ it) (h3 : ∀ p ∈ X.pn ++ pins, p.1 ≠ it) : Inv X pins σ H { s with heap := h', toks := t' } := by
 have nit : ∀ b u, H b = some u → b ≠ it := fun b u e z => by rw [z, hn] at e; cases e
 refine I.step (g' := s.gens) (d' := s.drawn) (ch := [it]) (fun b hb => ?_) (fun b o _ _ hc e _ => k b o (fun z => hc (by simp [z])) e) (fun b o _ _ hc e _ => ⟨o.slots, k b o (fun z => hc (by simp [z])) e⟩) (fun _ _ _ _ n => n)
  (fun b o hc e => ⟨o, k b o (fun z => hc (by simp [z])) e⟩) (fun _ _ e => e) (fun _ _ _ e => e) (fun b ps e => ⟨#[], by rw [e]; simp⟩) (fun m hm => ?_) (fun b u e => ?_) I.bare
 ·have e : b = it := by simpa using hb
  subst e
  exact ⟨h1, hL, h2, h3⟩
 ·obtain ⟨o, es, ep, ho, r⟩ := hm
  exact ⟨o, es, ep, k _ o (Ne.symm hL) ho, r⟩
 ·refine (I.hok b u e).stay (fun c v hc q => k c v ?_ q) (fun _ q => q) fun _ _ q => q
  rcases hc with z | z
  ·rw [z]; exact nit b u e
  ·exact nit c _ z
theorem Inv.tok (I : Inv X pins σ H s) (t : Nat) : Inv X pins σ H { s with toks := t } := I.un (h' := s.heap) (t' := t) Un.refl I.hok
theorem Inv.kept {t' : Nat} (I : Inv X pins σ H s) (k : ∀ b u, s.heap.get? b = some u → h'.get? b = some u) : Inv X pins σ H { s with heap := h', toks := t' } := I.un (Un.kept k) (I.hok.kept k)
theorem Inv.laid {a : Addr} {o : HO} {t' : Nat} (I : Inv X pins σ H s) (k : ∀ b u, s.heap.get? b = some u → h'.get? b = some u) (hp : s.heap.objs.size ≤ a) (new : ObjOk X.prog X.w (upd H a o) h' a o) :
  Inv X pins σ (upd H a o) { s with heap := h', toks := t' } := I.un (Un.laid k hp (I.hok.fresh hp)) (I.hok.laid k hp new)
theorem Inv.write {x e : Addr} {o : HO} {t' : Nat} (I : Inv X pins σ H s) (mu : Mut (H x)) (he : e = x ∨ H e = some (.own x)) (k : ∀ b u, b ≠ e → s.heap.get? b = some u → h'.get? b = some u) (heo : ∃ u, h'.get? e = some u)
  (new : ObjOk X.prog X.w (upd H x o) h' x o) : Inv X pins σ (upd H x o) { s with heap := h', toks := t' } := I.un (Un.write mu he k heo) (I.hok.write mu he k heo new)
theorem Inv.weak {σ' : List (Option V)} (I : Inv X pins σ H s) (hl : σ'.length = σ.length) (w : ∀ (i : Nat) v, σ'[i]? = some (some v) → σ[i]? = some (some v)) : Inv X pins σ' H s :=
 ⟨I.ok, I.os, I.bare, I.base, let ⟨m, hn, hl'⟩ := I.loc; ⟨m, hn, fun i x v e1 e2 e3 => hl' i x v e1 (w i v e2) e3⟩, I.cell, I.free, I.freeC, I.pin, I.hok, hl.trans I.len⟩
theorem Inv.pins_of {pins' : List (Addr × Obj)} (I : Inv X pins σ H s) (h : ∀ p ∈ pins', s.heap.get? p.1 = some p.2 ∧ H p.1 = none ∧ p.1 ≠ X.env.locals ∧ p.1 ∉ X.fs ∧ ∀ v, p.2.data ≠ .cell v) : Inv X pins' σ H s :=
 ⟨I.ok, I.os, I.bare, I.base, I.loc, I.cell, I.free, I.freeC, fun p hp => (List.mem_append.mp hp).elim (fun z => I.pin p (List.mem_append_left _ z)) (h p), I.hok, I.len⟩
theorem nodup_ix {N : List Str} (hN : N.Nodup) {i j : Nat} {x : Str} (a : N[i]? = some x) (b : N[j]? = some x) : i = j := by
 obtain ⟨h1, e1⟩ := List.getElem?_eq_some_iff.mp a
 obtain ⟨h2, e2⟩ := List.getElem?_eq_some_iff.mp b
 exact (List.getElem_inj hN).mp (e1.trans e2.symm)
theorem store_ok2 {M : Model} {A : Around} {E : Value → Shared → Prop} {i : Nat} {x : Str} {v : V} {u : Value} {Q : Unit → Shared → Prop} (I : Inv X pins σ H s) (hN : X.N.Nodup) (hi : X.N[i]? = some x) (hx : Loc X.env.scope x) (r : RelV v u)
  (h : ∀ s', Inv X pins (σ.set i (some v)) H s' → (∃ a, Heap.SameBut a s.heap s'.heap ∧ (a = X.env.locals ∨ X.env.cells.lookup x = some a)) → Q () s') (hf : X.fn x = true ∨ X.env.scope.names.lookup x = some .local := by first | exact .inl rfl | exact .inr rfl | assumption) : wpAny M A (storeName X.env x u) Q E s := by
 obtain ⟨m, hn, hl⟩ := id I.loc
 have hcls : (X.env.scope.kind == .class || (X.env.scope.kind == .module && X.env.locals != X.env.globals)) = false := by rw [I.ok.kind]; rfl
 have hiσ : i < σ.length := by rw [I.len]; exact (List.getElem?_eq_some_iff.mp hi).1
 have cne := I.cne
 have tracked : ∀ {a : Addr} {h' : Heap}, (∃ o, s.heap.get? a = some o ∧ H a = none) → Heap.SameBut a s.heap h' → HOk X.prog X.w H h' := fun {a h'} ha hs b ob e => by
  obtain ⟨_, _, hfree⟩ := ha
  refine (I.hok b ob e).stay (fun c w' hc q => (hs.2 c ?_).trans q) (fun _ q => q) fun _ _ q => q
  rintro rfl
  rcases hc with rfl | hc
  ·rw [hfree] at e; cases e
  ·rw [hfree] at hc; cases hc
 rcases hx with hk | hk
 ·refine wpAny_storeName_local hk hn (fun h' hn' hs => ?_) hcls
  obtain ⟨oL, _, _, hoL, _⟩ := id hn
  refine h _ ⟨I.ok, I.os, I.bare, ⟨fun b o e n hb hx => ?_, fun b o e n hb hx => ?_, I.base.free, fun b o e hx => ?_, I.base.tups, I.base.frzs, I.base.tbls⟩, ⟨_, hn', fun j y v' e1 e2 e3 => ?_⟩, fun y c e => ?_, I.free, I.freeC, fun p hp => ?_, tracked ⟨oL, hoL, I.free⟩ hs, by simpa using I.len⟩ ⟨_, hs, .inl rfl⟩
  ·exact (hs.2 b (Nat.ne_of_lt (Nat.lt_of_lt_of_le (Heap.lt_size e) I.ok.above))).trans (I.base.keep b o e n hb hx)
  ·obtain ⟨sl, e1⟩ := I.base.slot b o e n hb hx
   exact ⟨sl, (hs.2 b (Nat.ne_of_lt (Nat.lt_of_lt_of_le (Heap.lt_size e) I.ok.above))).trans e1⟩
  ·obtain ⟨o', e1⟩ := I.base.there b o e hx
   exact ⟨o', (hs.2 b (Nat.ne_of_lt (Nat.lt_of_lt_of_le (Heap.lt_size e) I.ok.above))).trans e1⟩
  ·by_cases hj : j = i
   ·subst hj
    rw [hi] at e1; cases e1
    rw [List.getElem?_set_self hiσ] at e2
    cases e2
    exact ⟨u, r, .inl ⟨hk, by simp⟩⟩
   ·rw [List.getElem?_set_ne (Ne.symm hj)] at e2
    obtain ⟨u', r', q⟩ := hl j y v' e1 e2 e3
    refine ⟨u', r', ?_⟩
    rcases q with ⟨k, e⟩ | ⟨k, c, e, z⟩
    ·refine .inl ⟨k, ?_⟩
     have : y ≠ x := fun e => hj (nodup_ix hN e1 (e ▸ hi))
     simp [this, e]
    ·exact .inr ⟨k, c, e, z.sameBut hs (cne y c e)⟩
  ·obtain ⟨w', z⟩ := I.cell y c e
   exact ⟨w', z.sameBut hs (cne y c e)⟩
  ·obtain ⟨e, n, ne, nf, d⟩ := I.pin p hp
   exact ⟨(hs.2 p.1 ne).trans e, n, ne, nf, d⟩
 ·have hfn : X.fn x = true := by
   rcases hf with z | z
   ·exact z
   ·rw [z] at hk; cases hk
  obtain ⟨c, hc⟩ := I.ok.has x (.inl hk)
  obtain ⟨w', z⟩ := I.cell x c hc
  refine wpAny_storeName_cell I.ok.kind hk hc z (fun h' hc' hs => ?_)
  obtain ⟨oc, hoc, hocd⟩ := id z
  refine h { s with heap := h' } ⟨I.ok, I.os, I.bare, ⟨fun b o e n hb hx => ?_, fun b o e n hb hx => ?_, I.base.free, fun b o e hx => ?_, I.base.tups, I.base.frzs, I.base.tbls⟩, ⟨m, hn.sameBut hs (Ne.symm (cne x c hc)), fun j y v' e1 e2 e3 => ?_⟩, fun y c' e => ?_, I.free, I.freeC, fun p hp => ?_, tracked ⟨oc, hoc, I.freeC x c hc⟩ hs, by simpa using I.len⟩ ⟨c, hs, .inr hc⟩
  ·exact (hs.2 b (Nat.ne_of_lt (Nat.lt_of_lt_of_le (Heap.lt_size e) (I.ok.cab x c hfn hc)))).trans (I.base.keep b o e n hb hx)
  ·obtain ⟨sl, e1⟩ := I.base.slot b o e n hb hx
   exact ⟨sl, (hs.2 b (Nat.ne_of_lt (Nat.lt_of_lt_of_le (Heap.lt_size e) (I.ok.cab x c hfn hc)))).trans e1⟩
  ·obtain ⟨o', e1⟩ := I.base.there b o e hx
   exact ⟨o', (hs.2 b (Nat.ne_of_lt (Nat.lt_of_lt_of_le (Heap.lt_size e) (I.ok.cab x c hfn hc)))).trans e1⟩
  ·by_cases hj : j = i
   ·subst hj
    rw [hi] at e1; cases e1
    rw [List.getElem?_set_self hiσ] at e2
    cases e2
    exact ⟨u, r, .inr ⟨.inl hk, c, hc, hc'⟩⟩
   ·rw [List.getElem?_set_ne (Ne.symm hj)] at e2
    obtain ⟨u', r', q⟩ := hl j y v' e1 e2 e3
    refine ⟨u', r', ?_⟩
    rcases q with q | ⟨k, c', e, z'⟩
    ·exact .inl q
    ·refine .inr ⟨k, c', e, z'.sameBut hs ?_⟩
     rintro rfl
     exact hj (nodup_ix hN e1 (I.ok.inj _ _ _ e hc ▸ hi))
  ·by_cases hcc : c' = c
   ·subst hcc; exact ⟨_, hc'⟩
   ·obtain ⟨w2, z2⟩ := I.cell y c' e
    exact ⟨w2, z2.sameBut hs hcc⟩
  ·obtain ⟨e, n, ne, nf, d⟩ := I.pin p hp
   refine ⟨(hs.2 p.1 ?_).trans e, n, ne, nf, d⟩
   intro q
   rw [q, hoc] at e
   have q' : oc = p.2 := Option.some.inj e
   exact d w' (by rw [← q']; exact hocd)
theorem store_ok {M : Model} {A : Around} {E : Value → Shared → Prop} {i : Nat} {x : Str} {v : V} {u : Value} {Q : Unit → Shared → Prop} (I : Inv X pins σ H s) (hN : X.N.Nodup) (hi : X.N[i]? = some x) (hx : Loc X.env.scope x) (r : RelV v u)
  (h : ∀ s', Inv X pins (σ.set i (some v)) H s' → Q () s') (hf : X.fn x = true ∨ X.env.scope.names.lookup x = some .local := by first | exact .inl rfl | exact .inr rfl | assumption) : wpAny M A (storeName X.env x u) Q E s :=
 store_ok2 I hN hi hx r (fun s' I' _ => h s' I') hf
theorem Inv.call' {s' : Shared} {ch : List Addr} (I : Inv X pins σ H s) (ho : s'.os = s.os) (u : Un (frs X.stack) ch H H' s.heap s'.heap) (hok : HOk X.prog X.w H' s'.heap) (hg : AllBare s'.gens)
  (hch : ∀ b ∈ ch, (b ∈ X.ex ∨ X.s₀.heap.objs.size ≤ b) ∧ b ≠ X.env.locals ∧ (∀ x c, X.env.cells.lookup x = some c → c ≠ b) ∧ ∀ p ∈ X.pn ++ pins, p.1 ≠ b) : Inv X pins σ H' s' := by
 obtain ⟨h', g', d', t', o'⟩ := s'
 have e : o' = s.os := ho
 subst e
 exact I.call (g' := g') (t' := t') (d' := d') u hok hg hch
end
abbrev XK := Value → Option Addr → Hp → Prop
abbrev St := List (Option V)
abbrev VK := V → Hp → Prop
abbrev TE := St → Hp → VK → Prop
abbrev TT := St → Hp → (Bool → Hp → Prop) → Prop
abbrev TA := St → Hp → (List V → Hp → Prop) → Prop
structure Ends where
 nx : St → Hp → Prop
 rt : VK
 bk : St → Hp → Prop := fun _ _ => False
 ct : St → Hp → Prop := fun _ _ => False
abbrev TS := Ends → St → Hp → Prop
def EP (X : Cx) (pins : List (Addr × Obj)) (σ : St) (Q : VK) (u : Value) (s' : Shared) : Prop := ∃ v H', Inv X pins σ H' s' ∧ RelV v u ∧ Q v H'
def TP (X : Cx) (pins : List (Addr × Obj)) (σ : St) (Q : Bool → Hp → Prop) (b : Bool) (s' : Shared) : Prop := ∃ H', Inv X pins σ H' s' ∧ Q b H'
def AP (X : Cx) (pins : List (Addr × Obj)) (σ : St) (Q : List V → Hp → Prop) (us : List Value) (s' : Shared) : Prop := ∃ vs H', Inv X pins σ H' s' ∧ Vals vs us ∧ Q vs H'
def SP (X : Cx) (pins : List (Addr × Obj)) (D : Ends) (f : Flow) (s' : Shared) : Prop :=
 match f with
 | .next => ∃ σ' H', Inv X pins σ' H' s' ∧ D.nx σ' H'
 | .brk => ∃ σ' H', Inv X pins σ' H' s' ∧ D.bk σ' H'
 | .cont => ∃ σ' H', Inv X pins σ' H' s' ∧ D.ct σ' H'
 | .ret u => ∃ v σ' H', Inv X pins σ' H' s' ∧ RelV v u ∧ D.rt v H'
def PE (X : Cx) (e : Expr) (t : TE) : Prop :=
 ∀ (pins : List (Addr × Obj)) (s : Shared) (σ : St) (H : Hp) (Q : VK), Inv X pins σ H s → t σ H Q → wpAny (model X.prog X.w) X.A (eval e X.env) (EP X pins σ Q) X.xe s
def PT (X : Cx) (e : Expr) (t : TT) : Prop :=
 ∀ (pins : List (Addr × Obj)) (s : Shared) (σ : St) (H : Hp) (Q : Bool → Hp → Prop), Inv X pins σ H s → t σ H Q → wpAny (model X.prog X.w) X.A (isTrue e X.env (eval e X.env)) (TP X pins σ Q) X.xe s
def PW (X : Cx) (e : Expr) (t : TT) : Prop :=
 ∀ (whole : Sem Value) (pins : List (Addr × Obj)) (s : Shared) (σ : St) (H : Hp) (Q : Bool → Hp → Prop), Inv X pins σ H s → t σ H Q → wpAny (model X.prog X.w) X.A (isTrue e X.env whole) (TP X pins σ Q) X.xe s
theorem PW.pt {X : Cx} {e : Expr} {t : TT} (h : PW X e t) : PT X e t := h _
def PA (X : Cx) (es : List Expr) (t : TA) : Prop :=
 ∀ (pos : Pos) (pins : List (Addr × Obj)) (s : Shared) (σ : St) (H : Hp) (Q : List V → Hp → Prop), Inv X pins σ H s → t σ H Q → wpAny (model X.prog X.w) X.A (spliced (backTo pos (starEach es X.env))) (AP X pins σ Q) X.xe s
def PS (X : Cx) (st : Stmt) (t : TS) : Prop :=
 ∀ (pins : List (Addr × Obj)) (s : Shared) (σ : St) (H : Hp) (D : Ends), Inv X pins σ H s → t D σ H → wpAny (model X.prog X.w) X.A (exec st X.env) (SP X pins D) X.xe s
def PSs (X : Cx) (st : List Stmt) (t : TS) : Prop :=
 ∀ (pins : List (Addr × Obj)) (s : Shared) (σ : St) (H : Hp) (D : Ends), Inv X pins σ H s → t D σ H → wpAny (model X.prog X.w) X.A (execs st X.env) (SP X pins D) X.xe s
theorem thn {α : Type} {t : Sem α} {Q Q' : α → Shared → Prop} {M : Model} {A : Around} {E : Value → Shared → Prop} {s : Shared} (h : wpAny M A t Q E s) (hQ : ∀ a s, Q a s → Q' a s) : wpAny M A t Q' E s := wpAny_mono h hQ fun _ _ x => x
end L2
namespace L2
open PySem PySem.Spec PyProof.Rows
section
variable {X : Cx}
theorem bin {a b : Expr} {ta tb : TE} (ha : PE X a ta) (hb : PE X b tb) {pins : List (Addr × Obj)} {s : Shared} {σ : St} {H : Hp} {R : V → V → Hp → Prop} (I : Inv X pins σ H s) (h : ta σ H fun x H1 => tb σ H1 fun y H2 => R x y H2)
  {α : Type} {Q : α → Shared → Prop} {f : Value → Value → Sem α}
  (hf : ∀ v u s2 x y H2, Inv X pins σ H2 s2 → RelV x v → RelV y u → R x y H2 → wpAny (model X.prog X.w) X.A (f v u) Q X.xe s2) :
  wpAny (model X.prog X.w) X.A (eval a X.env) (fun v s₁ => wpAny (model X.prog X.w) X.A (eval b X.env) (fun u s₂ => wpAny (model X.prog X.w) X.A (f v u) Q X.xe s₂) X.xe s₁) X.xe s := by
 refine thn (ha pins s σ H _ I h) fun v s1 ⟨x, H1, I1, r1, q1⟩ => ?_
 refine thn (hb pins s1 σ H1 _ I1 q1) fun u s2 ⟨y, H2, I2, r2, q2⟩ => ?_
 exact hf v u s2 x y H2 I2 r1 r2 q2
def tVar (i : Nat) : TE := fun σ H Q => ∃ v, σ[i]? = some (some v) ∧ Q v H
def tC (v : V) : TE := fun _ H Q => Q v H
theorem pe_var {i : Nat} {x : Str} {pos : Pos} (hN : X.N[i]? = some x) (hv : Vis X.env.scope x) (hd : (x == ("__debug__" : Str)) = false := by decide) (hcd : (x == ("__classdict__" : Str)) = false := by decide) : PE X (.Name x pos) (tVar i) := by
 intro pins s σ H Q I h
 obtain ⟨v, e, h⟩ := h
 obtain ⟨m, hn, hl⟩ := I.loc
 obtain ⟨u, r, l⟩ := hl i x v hN e hv
 have fin : EP X pins σ Q u s := ⟨v, H, I, r, h⟩
 rcases l with ⟨hk, hm⟩ | ⟨hk, c, hc, hcell⟩
 ·exact wpAny_Name (wpAny_loadName_local I.ok.kind hk hn hm fin) hd
 ·rcases hk with hk | hk
  ·exact wpAny_Name (wpAny_loadName_cell I.ok.kind hk hc hcell fin) hd
  ·exact wpAny_Name (wpAny_loadName_free I.ok.kind hk hc hcell fin hcd) hd
theorem pe_int {i j pos} : PE X (.Constant (.int i) j pos) (tC (.int i)) := fun _ _ _ H _ I h => wpAny_Constant_int ⟨.int i, H, I.tok _, ⟨_, rfl⟩, h⟩
theorem pe_bl {b j pos} : PE X (.Constant (.bool b) j pos) (tC (.bl b)) := fun _ _ _ H _ I h => Constant_bool ⟨.bl b, H, I, rfl, h⟩
theorem pe_non {j pos} : PE X (.Constant .none j pos) (tC .non) := fun _ _ _ H _ I h => Constant_none ⟨.non, H, I, rfl, h⟩
theorem pe_str {x j pos} : PE X (.Constant (.str x) j pos) (tC (.str x)) := fun _ _ _ H _ I h => Calls.Constant_str ⟨.str x, H, I.tok _, ⟨_, rfl⟩, h⟩
def Gl (X : Cx) (x : Str) : Prop := X.env.kindOf x = some .globalImplicit
theorem ld_glob {E : Value → Shared → Prop} {pins : List (Addr × Obj)} {s : Shared} {σ : St} {H : Hp} {x : Str} {u : Value} {pos : Pos} {Q : Value → Shared → Prop} (I : Inv X pins σ H s) (hg : Gl X x) (hm : X.mg x = some u) (h : Q u s)
  (hd : (x == ("__debug__" : Str)) = false := by decide) : wpAny (model X.prog X.w) X.A (eval (.Name x pos) X.env) Q E s :=
 Calls.Name_function_global I.ok.kind hg (Calls.loadGlobal_global (by rw [I.ok.glob]; exact I.mod.glob.keeps I.bk) hm h) hd
theorem ld_blt {E : Value → Shared → Prop} {pins : List (Addr × Obj)} {s : Shared} {σ : St} {H : Hp} {x : Str} {u : Value} {pos : Pos} {Q : Value → Shared → Prop} (I : Inv X pins σ H s) (hg : Gl X x) (hm : X.mg x = none) (hv : bootBuiltins x = some u) (h : Q u s)
  (hn : x ≠ "__name__" := by decide) (hd : (x == ("__debug__" : Str)) = false := by decide) : wpAny (model X.prog X.w) X.A (eval (.Name x pos) X.env) Q E s := by
 obtain ⟨mb, h1, h2⟩ := I.mod.blt
 exact Calls.Name_function_global I.ok.kind hg (Calls.loadGlobal_builtin (by rw [I.ok.glob]; exact I.mod.glob.keeps I.bk) hm (by rw [I.ok.blt]; exact h1.keeps I.bk) ((h2 x hn).trans hv) h) hd
theorem pe_glob {x : Str} {v : V} {u : Value} {pos : Pos} (hg : Gl X x) (hm : X.mg x = some u) (r : RelV v u) (hd : (x == ("__debug__" : Str)) = false := by decide) : PE X (.Name x pos) (tC v) :=
 fun _ _ _ H _ I h => ld_glob I hg hm ⟨v, H, I, r, h⟩ hd
theorem pe_bltn {x : Str} {v : V} {u : Value} {pos : Pos} (hg : Gl X x) (hm : X.mg x = none) (hv : bootBuiltins x = some u) (r : RelV v u) (hn : x ≠ "__name__" := by decide) (hd : (x == ("__debug__" : Str)) = false := by decide) : PE X (.Name x pos) (tC v) :=
 fun _ _ _ H _ I h => ld_blt I hg hm hv ⟨v, H, I, r, h⟩ hn hd
variable {a b : Expr} {ta tb : TE} {pos : Pos}
variable {tA tB' : TT} {rest : List Expr}
def tNot (t : TT) : TT := fun σ H Q => t σ H fun c H1 => Q (!c) H1
theorem pw_and1 (ha : PT X a tA) : PW X (.BoolOp .And [a] pos) tA := by
 intro wh pins s σ H Q I h
 refine isTrue_and (thn (ha pins s σ H Q I h) fun c s1 e => ?_)
 cases c with
 | true => exact isTrue_and_nil e
 | false => exact e
theorem pw_or1 (ha : PT X a tA) : PW X (.BoolOp .Or [a] pos) tA := by
 intro wh pins s σ H Q I h
 refine isTrue_or (thn (ha pins s σ H Q I h) fun c s1 e => ?_)
 cases c with
 | false => exact isTrue_or_nil e
 | true => exact e
theorem pt_not (ha : PT X a tA) : PT X (.UnaryOp .Not a pos) (tNot tA) := by
 intro pins s σ H Q I h
 exact isTrue_not (ha pins s σ H (fun c H1 => Q (!c) H1) I h)
theorem pe_one {op} {t : TE} (h : PE X a t) : PE X (.BoolOp op [a] pos) t := fun pins s σ H Q I hw => BoolOp_one (h pins s σ H Q I hw)
end
end L2
namespace L2
open PySem PySem.Spec PyProof.Rows
def SqL (K : PySem.W.Frag) (H : Hp) (a : Addr) (xs : List V) : Prop :=
 Rd H a (.lst xs) ∨
  ∃ (o : Obj) (its : Array Value) (n : Nat), K.lookup a = some o ∧ o.cls = .type "list" ∧ o.dict = none ∧ o.data = .seq its n ∧ its.size ≤ sizeLine ∧ Vals xs its.toList
def SqT (K : PySem.W.Frag) (H : Hp) (a : Addr) (xs : List V) : Prop :=
 Rd H a (.tup xs) ∨
  ∃ (o : Obj) (its : Array Value) (n : Nat), K.lookup a = some o ∧ o.cls = .type "tuple" ∧ o.data = .seq its n ∧ its.size ≤ sizeLine ∧ Vals xs its.toList
def absV : Value → Option V
 | .none => some .non
 | .bool b => some (.bl b)
 | .int i _ => some (.int i)
 | .str x _ => some (.str x)
 | .bytes b _ => some (.byt b)
 | .float b _ => some (.flt b)
 | .ref a => some (.ref a)
 | .type n => some (.ty n)
 | _ => none
theorem RelV.abs {x : V} {u : Value} (r : RelV x u) : absV u = some x := by
 cases x with
 | non => cases r; rfl
 | bl _ => cases r; rfl
 | int _ => obtain ⟨t, rfl⟩ := r; rfl
 | str _ => obtain ⟨t, rfl⟩ := r; rfl
 | byt _ => obtain ⟨t, rfl⟩ := r; rfl
 | flt _ => obtain ⟨t, rfl⟩ := r; rfl
 | ref _ => cases r; rfl
 | ty _ => cases r; rfl
theorem RelV.inj {x y : V} {u : Value} (r : RelV x u) (q : RelV y u) : x = y := Option.some.inj (r.abs.symm.trans q.abs)
theorem Vals.inj : ∀ {xs ys : List V} {us : List Value}, Vals xs us → Vals ys us → xs = ys
 | _, _, _, .nil, .nil => rfl
 | _, _, _, .cons r t, .cons r' t' => by rw [r.inj r', Vals.inj t t']
section
variable {X : Cx} {pins : List (Addr × Obj)} {σ : St} {H : Hp} {s : Shared} {a : Addr} {xs ys : List V}
theorem SqL.of {K : PySem.W.Frag} (h : H a = some (.lst xs)) : SqL K H a xs := .inl (.inl h)
theorem SqT.of {K : PySem.W.Frag} (h : H a = some (.tup xs)) : SqT K H a xs := .inl (.inl h)
theorem Inv.list (I : Inv X pins σ H s) (h : SqL X.K H a xs) : ∃ its : List Value, Vals xs its ∧ PlainL s.heap a its.toArray ∧ xs.length ≤ sizeLine := by
 rcases h with h | ⟨o, its, n, hk, hc, hd, hs, hz, r⟩
 ·obtain ⟨z, its, n, r, e⟩ := h.ok I.hok
  exact ⟨its, r, ⟨_, n, e, rfl, rfl, rfl⟩, z⟩
 ·refine ⟨its.toList, r, ⟨o, n, I.kIn a o hk, hc, hd, by simpa using hs⟩, ?_⟩
  have e := r.length
  simp only [Array.length_toList] at e
  omega
theorem Inv.tuple (I : Inv X pins σ H s) (h : SqT X.K H a xs) : ∃ its : List Value, Vals xs its ∧ IsTup s.heap a its.toArray ∧ xs.length ≤ sizeLine := by
 rcases h with h | ⟨o, its, n, hk, hc, hs, hz, r⟩
 ·obtain ⟨z, its, r, p⟩ := h.ok I.hok
  exact ⟨its, r, p, z⟩
 ·refine ⟨its.toList, r, ⟨o, I.kIn a o hk, hc, n, by simpa using hs⟩, ?_⟩
  have e := r.length
  simp only [Array.length_toList] at e
  omega
theorem Inv.list_inj (I : Inv X pins σ H s) (h : SqL X.K H a xs) (h' : SqL X.K H a ys) : xs = ys := by
 obtain ⟨its, r, ⟨o, n, e, _, _, d⟩, _⟩ := I.list h
 obtain ⟨its', r', ⟨o', n', e', _, _, d'⟩, _⟩ := I.list h'
 rw [e] at e'; cases e'
 rw [d] at d'
 injection d' with d1 _
 have : its = its' := by simpa using congrArg Array.toList d1
 subst this
 exact r.inj r'
theorem Inv.tuple_inj (I : Inv X pins σ H s) (h : SqT X.K H a xs) (h' : SqT X.K H a ys) : xs = ys := by
 obtain ⟨its, r, ⟨o, e, _, n, d⟩, _⟩ := I.tuple h
 obtain ⟨its', r', ⟨o', e', _, n', d'⟩, _⟩ := I.tuple h'
 rw [e] at e'; cases e'
 rw [d] at d'
 injection d' with d1 _
 have : its = its' := by simpa using congrArg Array.toList d1
 subst this
 exact r.inj r'
end
abbrev Cx.wish (X : Cx) (E : Value → Shared → Prop) : Cx := { X with xe := E }
abbrev Cx.nox (X : Cx) : Cx := X.wish fun _ _ => False
theorem Cx.Ok.wish {X : Cx} (ok : X.Ok) (E : Value → Shared → Prop) : (X.wish E).Ok :=
 ⟨ok.mod, ok.kind, ok.glob, ok.blt, ok.above, ok.inj, ok.has, ok.cab, ok.hd, ok.frames, ok.stk, ok.exf, ok.bs, ok.bsz, ok.noex, ok.exfs, ok.funs, ok.frf⟩
theorem Cx.Ok.unwish {X : Cx} {E : Value → Shared → Prop} (ok : (X.wish E).Ok) : X.Ok :=
 ⟨ok.mod, ok.kind, ok.glob, ok.blt, ok.above, ok.inj, ok.has, ok.cab, ok.hd, ok.frames, ok.stk, ok.exf, ok.bs, ok.bsz, ok.noex, ok.exfs, ok.funs, ok.frf⟩
section
variable {X : Cx} {pins : List (Addr × Obj)} {σ : St} {H : Hp} {s : Shared} {E : Value → Shared → Prop}
theorem Inv.wish (I : Inv X pins σ H s) (E : Value → Shared → Prop) : Inv (X.wish E) pins σ H s := ⟨I.ok.wish E, I.os, I.bare, I.base, I.loc, I.cell, I.free, I.freeC, I.pin, I.hok, I.len⟩
theorem Inv.unwish (I : Inv (X.wish E) pins σ H s) : Inv X pins σ H s := ⟨I.ok.unwish, I.os, I.bare, I.base, I.loc, I.cell, I.free, I.freeC, I.pin, I.hok, I.len⟩
theorem SP.unwish {D : Ends} {f : Flow} {s' : Shared} (h : SP (X.wish E) pins D f s') : SP X pins D f s' := by
 cases f with
 | next => obtain ⟨σ', H', I, q⟩ := h; exact ⟨σ', H', I.unwish, q⟩
 | brk => obtain ⟨σ', H', I, q⟩ := h; exact ⟨σ', H', I.unwish, q⟩
 | cont => obtain ⟨σ', H', I, q⟩ := h; exact ⟨σ', H', I.unwish, q⟩
 | ret u => obtain ⟨v, σ', H', I, r, q⟩ := h; exact ⟨v, σ', H', I.unwish, r, q⟩
theorem PSs.nox {st : List Stmt} {t : TS} (h : PSs X.nox st t) : PSs X st t := fun pins s σ H D I hw =>
 wpAny_mono (h pins s σ H D (I.wish _) hw) (fun _ _ q => q.unwish) fun _ _ z => False.elim z
end
section
variable {X : Cx} {st : Stmt} {rest : List Stmt} {t u : TS} {e : Expr} {te : TE} {pos : Pos}
def tNext : TS := fun D σ H => D.nx σ H
def tSeq (t u : TS) : TS := fun D σ H => t { D with nx := u D } σ H
theorem pss_nil : PSs X [] tNext := fun _ _ σ H _ I h => wpAny_execs_nil ⟨σ, H, I, h⟩
theorem pss_cons (h1 : PS X st t) (h2 : PSs X rest u) : PSs X (st :: rest) (tSeq t u) := by
 intro pins s σ H D I h
 refine wpAny_execs_cons (thn (h1 pins s σ H { D with nx := u D } I h) fun f s1 q => ?_)
 cases f with
 | next =>
  obtain ⟨σ', H', I', q⟩ := q
  exact h2 pins s1 σ' H' D I' q
 | ret v => exact q
 | brk => exact q
 | cont => exact q
theorem pss_one (h1 : PS X st t) : PSs X [st] t := by
 intro pins s σ H D I h
 refine wpAny_execs_cons (thn (h1 pins s σ H D I h) fun f s1 q => ?_)
 cases f with
 | next => exact wpAny_execs_nil q
 | ret v => exact q
 | brk => exact q
 | cont => exact q
theorem Inv.quiet {pins : List (Addr × Obj)} {σ : St} {H : Hp} {s : Shared} (I : Inv X pins σ H s) : interactive X.env = false := by simp [interactive, I.ok.kind]
def tDrop (te : TE) : TS := fun D σ H => te σ H fun _ H1 => D.nx σ H1
theorem ps_expr (he : PE X e te) (hs : swapsWith e none pos.line X.env = pure false := by rfl) : PS X (.Expr e pos) (tDrop te) := by
 intro pins s σ H D I h
 exact wpAny_Expr_any (thn (he pins s σ H _ I h) fun v s1 ⟨x, H1, I1, r1, q1⟩ => ⟨σ, H1, I1, q1⟩) I.quiet hs
def tRet (te : TE) : TS := fun D σ H => te σ H D.rt
theorem ps_ret (he : PE X e te) : PS X (.Return (some e) pos) (tRet te) := by
 intro pins s σ H D I h
 exact wpAny_Return_some (thn (he pins s σ H _ I h) fun v s1 ⟨x, H1, I1, r1, q1⟩ => ⟨x, σ, H1, I1, r1, q1⟩)
def tNever : TS := fun _ _ _ => False
theorem ps_never : PS X st tNever := fun _ _ _ _ _ _ h => h.elim
end
abbrev TG := V → St → Hp → (St → Hp → Prop) → Prop
abbrev TGs := List V → St → Hp → (St → Hp → Prop) → Prop
def PG (X : Cx) (target : Expr) (t : TG) : Prop :=
 ∀ (pins : List (Addr × Obj)) (s : Shared) (σ : St) (H : Hp) (v : V) (u : Value) (Q : St → Hp → Prop), Inv X pins σ H s → RelV v u → t v σ H Q →
  wpAny (model X.prog X.w) X.A (assign target X.env u) (fun _ s' => ∃ σ' H', Inv X pins σ' H' s' ∧ Q σ' H') X.xe s
def PGs (X : Cx) (ts : List Expr) (t : TGs) : Prop :=
 ∀ (pins : List (Addr × Obj)) (s : Shared) (σ : St) (H : Hp) (vs : List V) (us : List Value) (Q : St → Hp → Prop), Inv X pins σ H s → Vals vs us → t vs σ H Q →
  wpAny (model X.prog X.w) X.A (assignInOrder ((assignEach ts X.env).map (·.2)) us) (fun _ s' => ∃ σ' H', Inv X pins σ' H' s' ∧ Q σ' H') X.xe s
abbrev TSet := V → V → V → Hp → (Hp → Prop) → Prop
def PSet (X : Cx) (t : TSet) : Prop :=
 ∀ (pins : List (Addr × Obj)) (s : Shared) (σ : St) (H : Hp) (o i v : V) (ov iv u : Value) (Q : Hp → Prop), Inv X pins σ H s → RelV o ov → RelV i iv → RelV v u → t o i v H Q →
  wpAny (model X.prog X.w) X.A (setItem ov iv u) (fun _ s' => ∃ H', Inv X pins σ H' s' ∧ Q H') X.xe s
abbrev TIp := V → V → Hp → VK → Prop
def PIp (X : Cx) (op : Operator) (t : TIp) : Prop :=
 ∀ (pins : List (Addr × Obj)) (s : Shared) (σ : St) (H : Hp) (x y : V) (v u : Value) (Q : VK), Inv X pins σ H s → RelV x v → RelV y u → t x y H Q →
  wpAny (model X.prog X.w) X.A (inplaceOp op v u) (EP X pins σ Q) X.xe s
section
variable {X : Cx} {pos : Pos}
def gName (i : Nat) : TG := fun v σ H Q => Q (σ.set i (some v)) H
theorem pg_name {i : Nat} {x : Str} (hN : X.N.Nodup) (hi : X.N[i]? = some x) (hx : Loc X.env.scope x) (hf : X.fn x = true ∨ X.env.scope.names.lookup x = some .local := by first | exact .inl rfl | exact .inr rfl | assumption) : PG X (.Name x pos) (gName i) := by
 intro pins s σ H v u Q I r h
 exact wpAny_assign_Name (store_ok I hN hi hx r (fun s' I' => ⟨_, H, I', h⟩) hf)
def gNil : TGs := fun vs σ H Q => vs = [] ∧ Q σ H
def gCons (t : TG) (u : TGs) : TGs := fun vs σ H Q => ∃ v r, vs = v :: r ∧ t v σ H fun σ' H' => u r σ' H' Q
theorem pgs_nil : PGs X [] gNil := by
 intro pins s σ H vs us Q I r h
 obtain ⟨e, h⟩ := h
 subst e
 cases r
 exact assignInOrder_nil ⟨σ, H, I, h⟩
theorem pgs_cons {e : Expr} {es : List Expr} {t : TG} {u : TGs} (h1 : PG X e t) (h2 : PGs X es u)
  (hs : (assignEach (e :: es) X.env).map (·.2) = assign e X.env :: (assignEach es X.env).map (·.2) := by rfl) : PGs X (e :: es) (gCons t u) := by
 intro pins s σ H vs us Q I r h
 obtain ⟨v, vr, e1, h⟩ := h
 subst e1
 cases r with
 | cons r rr =>
  rw [hs]
  refine assignInOrder_cons (thn (h1 pins s σ H _ _ _ I r h) fun _ s1 ⟨σ1, H1, I1, q1⟩ => ?_)
  exact h2 pins s1 σ1 H1 _ _ Q I1 rr q1
def gTup (K : PySem.W.Frag) (n : Nat) (t : TGs) : TG := fun v σ H Q => ∃ a xs, v = .ref a ∧ SqT K H a xs ∧ xs.length = n ∧ t xs σ H Q
theorem pg_tup {es : List Expr} {k : Nat} {t : TGs} {n : Nat} (hc : X.calm = true) (h : PGs X es t)
  (hn : (assignEach es X.env).length = n := by rfl) (hst : (assignEach es X.env).findIdx? (·.1) = none := by rfl) : PG X (.Tuple es k pos) (gTup X.K n t) := by
 intro pins s σ H v u Q I r hw
 obtain ⟨a, xs, e1, hq, hl, hw⟩ := hw
 subst e1
 cases r
 obtain ⟨its, rv, ht, hz⟩ := I.tuple hq
 refine assign_Tuple_tuple (I.ok.hd hc) ht (by simp [hn, ← hl, rv.length]) hst fun h' hx => ?_
 have I1 : Inv X pins σ H { s with heap := h' } := I.kept (t' := s.toks) fun b o e => hx b o (Nat.ne_of_lt (Heap.lt_size e)) e
 exact h pins _ σ H xs _ Q I1 (by simpa using rv) hw
def gSub (to ti : TE) (t : TSet) : TG := fun v σ H Q => to σ H fun o H1 => ti σ H1 fun i H2 => t o i v H2 fun H3 => Q σ H3
theorem pg_sub {o i : Expr} {to ti : TE} {t : TSet} (ho : PE X o to) (hi : PE X i ti) (hs : PSet X t)
  (ha : ∀ v, assign (.Subscript o i pos) X.env v = (do
   let ov ← holding [v] (eval o X.env)
   let iv ← holding [v, ov] (eval i X.env)
   standAt pos
   holding [v, ov, iv] (setItem ov iv v)
   release [v, ov, iv] []) := by intro _; rfl) : PG X (.Subscript o i pos) (gSub to ti t) := by
 intro pins s σ H v u Q I r h
 rw [ha]
 refine wpAny_bind (wpAny_holding (thn (ho pins s σ H _ I h) fun ov s1 ⟨x, H1, I1, r1, q1⟩ => ?_))
 refine wpAny_bind (wpAny_holding (thn (hi pins s1 σ H1 _ I1 q1) fun iv s2 ⟨y, H2, I2, r2, q2⟩ => ?_))
 refine wpAny_bind (wpAny_standAt (wpAny_bind (wpAny_holding (thn (hs pins s2 σ H2 x y v ov iv u _ I2 r1 r2 r q2) fun _ s3 ⟨H3, I3, q3⟩ => ?_))))
 exact wpAny_release ⟨σ, H3, I3, q3⟩
def tAsg (te : TE) (g : TG) : TS := fun D σ H => te σ H fun x H1 => g x σ H1 D.nx
theorem ps_asg {tg e : Expr} {te : TE} {g : TG} (he : PE X e te) (hg : PG X tg g) (hs : swapsWithSole [tg] e pos.line X.env = pure false := by rfl) (hw : swappedStores [tg] e X.env = pure none := by rfl)
  (h1 : (assignEach [tg] X.env).map (·.2) = [assign tg X.env] := by rfl) : PS X (.Assign [tg] e pos) (tAsg te g) := by
 intro pins s σ H D I h
 refine wpAny_Assign_stores (thn (he pins s σ H _ I h) fun v s1 ⟨x, H1, I1, r1, q1⟩ => ?_) hs hw
 rw [h1]
 exact thn (hg pins s1 σ H1 x v _ I1 r1 q1) fun _ s2 q => q
theorem ps_set {i : Nat} {x : Str} {e : Expr} {te : TE} {pos' : Pos} (hN : X.N.Nodup) (hi : X.N[i]? = some x) (hx : Loc X.env.scope x) (he : PE X e te) (hs : swapsWith e (some (.Name x pos')) pos.line X.env = pure false := by rfl) (hf : X.fn x = true ∨ X.env.scope.names.lookup x = some .local := by first | exact .inl rfl | exact .inr rfl | assumption) :
  PS X (.Assign [.Name x pos'] e pos) (tAsg te (gName i)) := by
 intro pins s σ H D I h
 refine wpAny_Assign_Name (thn (he pins s σ H _ I h) fun v s1 ⟨y, H1, I1, r1, q1⟩ => ?_) hs
 exact store_ok I1 hN hi hx r1 (fun s2 I2 => ⟨_, H1, I2, q1⟩) hf
def tPar (i j : Nat) (ta : TA) : TS := fun D σ H => ta σ H fun vs H1 => ∃ v w, vs = [v, w] ∧ D.nx ((σ.set i (some v)).set j (some w)) H1
theorem ps_par {i j : Nat} {x y : Str} {a b : Expr} {ta : TA} {px py pt : Pos} {kt k2 pt2} (hc : X.calm = true) (hN : X.N.Nodup) (hi : X.N[i]? = some x) (hj : X.N[j]? = some y) (hij : i ≠ j)
  (hx : X.env.scope.names.lookup x = some .local) (hy : X.env.scope.names.lookup y = some .local) (ha : PA X [a, b] ta)
  (hw : swappedStores [.Tuple [.Name x px, .Name y py] kt pt] (.Tuple [a, b] k2 pt2) X.env = pure (some [x, y]))
  (hs : swapsWithSole [.Tuple [.Name x px, .Name y py] kt pt] (.Tuple [a, b] k2 pt2) pos.line X.env = pure false := by rfl) :
  PS X (.Assign [.Tuple [.Name x px, .Name y py] kt pt] (.Tuple [a, b] k2 pt2) pos) (tPar i j ta) := by
 intro pins s σ H D I h
 rw [exec_Assign_arm]
 refine wpAny_bind (wpAny_standAt ?_)
 rw [hs]
 refine wpAny_bind (wpAny_pure ?_)
 rw [if_neg (by decide)]
 refine wpAny_bind (Tuple_ (thn (ha _ pins s σ H _ I h) fun us s1 ⟨vs, H1, I1, r1, q1⟩ => ?_))
 obtain ⟨v, w, e1, q1⟩ := q1
 subst e1
 obtain ⟨u1, u2, rfl, rv, rw'⟩ : ∃ u1 u2, us = [u1, u2] ∧ RelV v u1 ∧ RelV w u2 := by
  cases r1 with
  | cons p q =>
   cases q with
   | cons p' q' =>
    cases q'
    exact ⟨_, _, rfl, p, p'⟩
 refine wpAny_newObj_type ?_ (by show 2 ≤ sizeLine; decide)
 have I2 : Inv X pins σ H1 { s1 with heap := s1.heap.push { cls := .type "tuple", data := .seq [u1, u2].toArray } } := I1.kept (t' := s1.toks) fun b o e => Heap.get?_push_of_some _ e
 rw [hw]
 refine wpAny_bind (wpAny_pure ?_)
 show wpAny (model X.prog X.w) X.A (do rule "assign.swapped-stores"; let items ← unpackItems (.ref s1.heap.objs.size) 2 none; assignInOrder [fun v => bindName X.env y v, fun v => bindName X.env x v] items.reverse; pure Flow.next) _ _ _
 refine wpAny_bind (wpAny_rule (wpAny_bind (unpackItems_tuple (items := #[u1, u2]) (I.ok.hd hc) (IsTup.new s1.heap _) fun h' hx' => ?_)))
 have I3 := I2.kept (h' := h') (t' := s1.toks) fun b o e => hx' b o (Nat.ne_of_lt (Heap.lt_size e)) e
 show wpAny _ _ (assignInOrder [fun v => bindName X.env y v, fun v => bindName X.env x v] [u2, u1] >>= fun _ => pure Flow.next) _ _ _
 refine wpAny_bind (assignInOrder_cons (wpAny_bindName (store_ok I3 hN hj (.inl hy) rw' (fun s2 I4 => ?_) (.inr hy))))
 refine assignInOrder_cons (wpAny_bindName (store_ok I4 hN hi (.inl hx) rv (fun s3 I5 => assignInOrder_nil (wpAny_pure ?_)) (.inr hx)))
 rw [List.set_comm _ _ (Ne.symm hij)] at I5
 exact ⟨_, H1, I5, q1⟩
def tAug (i : Nat) (te : TE) (ti : TIp) : TS := fun D σ H => ∃ x, σ[i]? = some (some x) ∧ te σ H fun y H1 => ti x y H1 fun z H2 => D.nx (σ.set i (some z)) H2
theorem ps_aug {i : Nat} {x : Str} {e : Expr} {te : TE} {op : Operator} {ti : TIp} {pos' : Pos} (hN : X.N.Nodup) (hi : X.N[i]? = some x) (hx : Loc X.env.scope x) (he : PE X e te) (ho : PIp X op ti) (hf : X.fn x = true ∨ X.env.scope.names.lookup x = some .local := by first | exact .inl rfl | exact .inr rfl | assumption) :
  PS X (.AugAssign (.Name x pos') op e pos) (tAug i te ti) := by
 intro pins s σ H D I h
 obtain ⟨v, e1, h⟩ := h
 obtain ⟨m, hn, hl⟩ := I.loc
 have vis : Vis X.env.scope x := by rcases hx with k | k; exact .inl k; exact .inr (.inl k)
 obtain ⟨u, r, l⟩ := hl i x v hi e1 vis
 refine wpAny_AugAssign_Name ?_
 have go : wpAny (model X.prog X.w) X.A (eval e X.env) (fun w s₂ => wpAny (model X.prog X.w) X.A (inplaceOp op u w) (fun r s₃ => wpAny (model X.prog X.w) X.A (storeName X.env x r) (fun _ => SP X pins D .next) X.xe s₃) X.xe s₂) X.xe s := by
  refine thn (he pins s σ H _ I h) fun w s1 ⟨y, H1, I1, r1, q1⟩ => ?_
  refine thn (ho pins s1 σ H1 v y u w _ I1 r r1 q1) fun z s2 ⟨zv, H2, I2, r2, q2⟩ => ?_
  exact store_ok I2 hN hi hx r2 (fun s3 I3 => ⟨_, H2, I3, q2⟩) hf
 rcases l with ⟨hk, hm⟩ | ⟨hk, c, hc, hcell⟩
 ·exact wpAny_loadName_local I.ok.kind hk hn hm go
 ·rcases hk with hk | hk
  ·exact wpAny_loadName_cell I.ok.kind hk hc hcell go
  ·rcases hx with k | k
   ·have : X.env.scope.names.lookup x = some .free := hk
    rw [k] at this; cases this
   ·have : X.env.scope.names.lookup x = some .free := hk
    rw [k] at this; cases this
def ipI (f : Int → Int → Int) : TIp := fun x y H Q => ∃ i j, x = .int i ∧ y = .int j ∧ Q (.int (f i j)) H
theorem ip_add : PIp X .Add (ipI fun i j => i + j) := by
 intro pins s σ H x y v u Q I r1 r2 h
 obtain ⟨i, j, e1, e2, q⟩ := h
 subst e1; subst e2
 obtain ⟨t, rfl⟩ := r1
 obtain ⟨t', rfl⟩ := r2
 exact iadd_int ⟨.int _, H, I.tok _, ⟨_, rfl⟩, q⟩
theorem ip_sub : PIp X .Sub (ipI fun i j => i - j) := by
 intro pins s σ H x y v u Q I r1 r2 h
 obtain ⟨i, j, e1, e2, q⟩ := h
 subst e1; subst e2
 obtain ⟨t, rfl⟩ := r1
 obtain ⟨t', rfl⟩ := r2
 exact isub_int ⟨.int _, H, I.tok _, ⟨_, rfl⟩, q⟩
end
section
variable {X : Cx} {pos : Pos}
end
structure It where
 go : Nat → Hp → Prop
 yld : Nat → Hp → V → Hp → Prop
 stop : Nat → Hp → Prop
def FpOk (X : Cx) (pins : List (Addr × Obj)) (H : Hp) (b : Addr) : Prop :=
 H b = none ∧ b ≠ X.env.locals ∧ b ∉ X.fs ∧ (b ∈ X.ex ∨ X.s₀.heap.objs.size ≤ b) ∧ (∀ x c, X.env.cells.lookup x = some c → c ≠ b) ∧ ∀ p ∈ X.pn ++ pins, p.1 ≠ b
theorem Inv.fpOk {X : Cx} {pins : List (Addr × Obj)} {σ : St} {H H' : Hp} {s : Shared} {b : Addr} (I : Inv X pins σ H s) (hb : s.heap.objs.size ≤ b) (hn : H' b = none) : FpOk X pins H' b := by
 refine ⟨hn, Nat.ne_of_gt (Nat.lt_of_lt_of_le I.lt hb), I.nofs hb, .inr (Nat.le_trans I.sz hb), fun x c e z => ?_, fun p hp z => ?_⟩
 ·obtain ⟨v, q⟩ := I.cell x c e
  exact absurd (Nat.lt_of_lt_of_le q.lt (by rw [z]; exact hb)) (Nat.lt_irrefl _)
 ·exact absurd (Nat.lt_of_lt_of_le (Heap.lt_size (I.pin p hp).1) (by rw [z]; exact hb)) (Nat.lt_irrefl _)
structure Turn (P : Program) (w : World) (K : PySem.W.Frag) (tg : Expr) (J : It) (fp : List Addr) (it : Addr) (tn : Nat → Heap → Prop) : Prop where
 mem : it ∈ fp
 obj : ∀ i h, tn i h → ∀ b ∈ fp, ∃ o, h.get? b = some o ∧ ∀ v, o.data ≠ .cell v
 keep : ∀ i h h', tn i h → (∀ b ∈ fp, ∀ o, h.get? b = some o → h'.get? b = some o) → tn i h'
 item : ∀ (X : Cx), X.prog = P → X.w = w → X.K = K → X.calm = true → ∀ (i : Nat) (pins : List (Addr × Obj)) (s : Shared) (σ : St) (H : Hp) (E : Value → Shared → Prop), Inv X pins σ H s → (∀ b ∈ fp, FpOk X pins H b) → tn i s.heap → J.go i H →
  wpAny (model P w) X.A (pyNext (.ref it)) (fun r s1 => ∃ u, r = some u ∧
   wpAny (model P w) X.A (letOwnedTupleGo tg (.ref it) u) (fun _ s2 => ∃ x H', Inv X pins σ H' s2 ∧ RelV x u ∧ J.yld i H x H' ∧ tn (i + 1) s2.heap ∧ ∀ b ∈ fp, H' b = none) E s1) E s
 done : ∀ (X : Cx), X.prog = P → X.w = w → X.K = K → X.calm = true → ∀ (i : Nat) (pins : List (Addr × Obj)) (s : Shared) (σ : St) (H : Hp) (E : Value → Shared → Prop), Inv X pins σ H s → (∀ b ∈ fp, FpOk X pins H b) → tn i s.heap → J.stop i H →
  wpAny (model P w) X.A (pyNext (.ref it)) (fun r s1 => r = none ∧ Inv X pins σ H s1) E s
 self : ∀ (A : Around) (i : Nat) (s : Shared) (Q : Value → Shared → Prop) (E : Value → Shared → Prop), tn i s.heap → Q (.ref it) s → wpAny (model P w) A (pyIter (.ref it)) Q E s
abbrev TI := St → Hp → (It → Hp → Prop) → Prop
def PIE (X : Cx) (pins : List (Addr × Obj)) (σ : St) (tg : Expr) (R : It → Hp → Prop) (itv : Value) (s2 : Shared) : Prop :=
 ∃ (it : Addr) (fp : List Addr) (tn : Nat → Heap → Prop) (J : It) (H' : Hp), itv = .ref it ∧ Inv X pins σ H' s2 ∧ Turn X.prog X.w X.K tg J fp it tn ∧ tn 0 s2.heap ∧ (∀ b ∈ fp, FpOk X pins H' b) ∧ R J H'
def PI (X : Cx) (tg iter : Expr) (wi : TI) : Prop :=
 ∀ (pins : List (Addr × Obj)) (s : Shared) (σ : St) (H : Hp) (R : It → Hp → Prop), Inv X pins σ H s → wi σ H R →
  wpAny (model X.prog X.w) X.A (eval iter X.env) (fun v s1 => wpAny (model X.prog X.w) X.A (pyIter v) (PIE X pins σ tg R) X.xe s1) X.xe s
theorem go_of {M : Model} {A : Around} {E : Value → Shared → Prop} {s : Shared} {tg : Expr} {it : Addr} {u : Value} {o : Obj} {n : String} {vs : Array Value} {Q : Unit → Shared → Prop} (ho : s.heap.get? it = some o) (hc : o.cls = .type n) (hd : o.data = .fields vs)
    (hn : ["enumerate", "zip", "dict_itemiterator", "dict_reverseitemiterator", "odict_iterator", "itertools.zip_longest", "itertools.pairwise"].contains n = false) (hQ : Q () s) : wpAny M A (letOwnedTupleGo tg (.ref it) u) Q E s := by
  unfold letOwnedTupleGo
  cases tg <;> first
    | exact wpAny_pure hQ
    | (cases u <;> first
        | exact wpAny_pure hQ
        | (refine wpAny_bind (wpAny_load ho ?_)
           rw [hc, hd]
           show wpAny M A (if (["enumerate", "zip", "dict_itemiterator", "dict_reverseitemiterator", "odict_iterator", "itertools.zip_longest", "itertools.pairwise"].contains n && vs[0]? == some (rawInt _)) = true then _ else _) Q E s
           rw [if_neg (by intro h; rw [hn, Bool.false_and] at h; cases h)]
           exact wpAny_pure hQ))
def Itl (K : PySem.W.Frag) (a : Addr) : It :=
 ⟨fun i H => ∃ xs x, SqL K H a xs ∧ xs[i]? = some x, fun i H x H' => H' = H ∧ ∀ xs, SqL K H a xs → xs[i]? = some x, fun i H => ∃ xs, SqL K H a xs ∧ xs.length ≤ i⟩
def Itt (K : PySem.W.Frag) (a : Addr) : It :=
 ⟨fun i H => ∃ xs x, SqT K H a xs ∧ xs[i]? = some x, fun i H x H' => H' = H ∧ ∀ xs, SqT K H a xs → xs[i]? = some x, fun i H => ∃ xs, SqT K H a xs ∧ xs.length ≤ i⟩
def Itr (lo : Int) (n : Nat) : It := ⟨fun i _ => i < n, fun i H x H' => H' = H ∧ x = .int (lo + i), fun i _ => n ≤ i⟩
theorem turn_list {P : Program} {w : World} {K : PySem.W.Frag} {tg : Expr} (a it : Addr) : Turn P w K tg (Itl K a) [it] it (fun i h => h.IsListIter it a i) where
 mem := by simp
 obj := fun i h st b hb => by
  have e : b = it := by simpa using hb
  subst e
  obtain ⟨o, e, c, d⟩ := st
  exact ⟨o, e, fun v z => by rw [d] at z; cases z⟩
 keep := fun i h h' st k => st.at fun o e => k it (by simp) o e
 item := by
  intro X hP hw hK hc i pins s σ H E I hf st hg
  subst hP hw hK
  obtain ⟨xs, x, hq, hx⟩ := hg
  obtain ⟨its, rv, p, hz⟩ := I.list hq
  obtain ⟨u, hu, ru⟩ := rv.get hx
  obtain ⟨f0, f1, f2, f3, f4, f5⟩ := hf it (by simp)
  refine wpAny_pyNext_list_item st p.isList (x := u) (by simpa using hu) fun h' st' sb => ?_
  have I1 : Inv X pins σ H { s with heap := h' } := I.turned (t' := s.toks) (fun b o hb e => (sb.2 b hb).trans e) f0 f1 f3 f4 f5
  obtain ⟨o, e, c, d⟩ := id st'
  exact ⟨u, rfl, go_of (s := { s with heap := h' }) e c d (by decide) ⟨x, H, I1, ru, ⟨rfl, fun ys hy => by rw [I.list_inj hy hq]; exact hx⟩, st', fun b hb => (hf b hb).1⟩⟩
 done := by
  intro X hP hw hK hc i pins s σ H E I hf st hg
  subst hP hw hK
  obtain ⟨xs, hq, hx⟩ := hg
  obtain ⟨its, rv, p, hz⟩ := I.list hq
  obtain ⟨f0, f1, f2, f3, f4, f5⟩ := hf it (by simp)
  have hl := rv.length
  exact wpAny_pyNext_list_end (I.ok.hd hc) st p.isList (by simp; omega) fun h' eb => ⟨rfl, I.turned (t' := s.toks) (fun b o hb e => eb b o hb e) f0 f1 f3 f4 f5⟩
 self := fun _ _ _ _ _ st h => wpAny_pyIter_listiter st h
theorem turn_tuple {P : Program} {w : World} {K : PySem.W.Frag} {tg : Expr} (a it : Addr) : Turn P w K tg (Itt K a) [it] it (fun i h => h.IsTupleIter it a i) where
 mem := by simp
 obj := fun i h st b hb => by
  have e : b = it := by simpa using hb
  subst e
  obtain ⟨o, e, c, d⟩ := st
  exact ⟨o, e, fun v z => by rw [d] at z; cases z⟩
 keep := fun i h h' st k => st.at fun o e => k it (by simp) o e
 item := by
  intro X hP hw hK hc i pins s σ H E I hf st hg
  subst hP hw hK
  obtain ⟨xs, x, hq, hx⟩ := hg
  obtain ⟨its, rv, p, hz⟩ := I.tuple hq
  obtain ⟨u, hu, ru⟩ := rv.get hx
  obtain ⟨f0, f1, f2, f3, f4, f5⟩ := hf it (by simp)
  refine wpAny_pyNext_tuple_item st (show s.heap.IsTuple a its.toArray from p) (x := u) (by simpa using hu) fun h' st' sb => ?_
  have I1 : Inv X pins σ H { s with heap := h' } := I.turned (t' := s.toks) (fun b o hb e => (sb.2 b hb).trans e) f0 f1 f3 f4 f5
  obtain ⟨o, e, c, d⟩ := id st'
  exact ⟨u, rfl, go_of (s := { s with heap := h' }) e c d (by decide) ⟨x, H, I1, ru, ⟨rfl, fun ys hy => by rw [I.tuple_inj hy hq]; exact hx⟩, st', fun b hb => (hf b hb).1⟩⟩
 done := by
  intro X hP hw hK hc i pins s σ H E I hf st hg
  subst hP hw hK
  obtain ⟨xs, hq, hx⟩ := hg
  obtain ⟨its, rv, p, hz⟩ := I.tuple hq
  obtain ⟨f0, f1, f2, f3, f4, f5⟩ := hf it (by simp)
  have hl := rv.length
  exact wpAny_pyNext_tuple_end (I.ok.hd hc) st (show s.heap.IsTuple a its.toArray from p) (by simp; omega) fun h' eb => ⟨rfl, I.turned (t' := s.toks) (fun b o hb e => eb b o hb e) f0 f1 f3 f4 f5⟩
 self := fun _ _ _ _ _ st h => wpAny_pyIter_tupleiter st h
theorem turn_range {P : Program} {w : World} {K : PySem.W.Frag} {tg : Expr} (it : Addr) (lo : Int) (n : Nat) : Turn P w K tg (Itr lo n) [it] it (fun i h => IsRangeIter h it (lo + (i : Nat) * 1) ((n : Int) - (i : Nat)) 1) where
 mem := by simp
 obj := fun i h st b hb => by
  have e : b = it := by simpa using hb
  subst e
  exact ⟨_, st, fun v z => by
   have z' : Data.fields _ = Data.cell v := z
   cases z'⟩
 keep := fun i h h' st k => k it (by simp) _ st
 item := by
  intro X hP hw hK hc i pins s σ H E I hf st hg
  subst hP hw hK
  obtain ⟨f0, f1, f2, f3, f4, f5⟩ := hf it (by simp)
  have W := Walks.range (prog := X.prog) (w := X.w) (I.ok.hd hc) it lo 1 n
  refine W.item i s _ _ hg st fun v h' tk hv st' kk => ?_
  obtain ⟨t, rfl⟩ := hv
  have I1 : Inv X pins σ H { s with heap := h', toks := tk } := I.turned (fun b o hb e => kk b o (by simpa using hb) e) f0 f1 f3 f4 f5
  refine ⟨_, rfl, go_of (s := { s with heap := h', toks := tk }) (n := "range_iterator") st' rfl rfl (by decide) ⟨.int (lo + i), H, I1, ⟨t, ?_⟩, ⟨rfl, rfl⟩, st', fun b hb => (hf b hb).1⟩⟩
  rw [Int.mul_one]
 done := by
  intro X hP hw hK hc i pins s σ H E I hf st hg
  subst hP hw hK
  obtain ⟨f0, f1, f2, f3, f4, f5⟩ := hf it (by simp)
  exact wpAny_pyNext_range_end (I.ok.hd hc) st (by have : n ≤ i := hg; omega) fun h' eb => ⟨rfl, I.turned (t' := s.toks) (fun b o hb e => eb b o hb e) f0 f1 f3 f4 f5⟩
 self := fun _ _ _ _ _ st h => wpAny_pyIter_rangeiter st h
end L2
namespace L2
open PySem PySem.Spec PyProof.Rows
section
variable {X : Cx} {tg : Expr}
def iList (K : PySem.W.Frag) (tl : TE) : TI := fun σ H R => tl σ H fun x H1 => ∃ a, x = .ref a ∧ (∃ xs, SqL K H1 a xs) ∧ R (Itl K a) H1
def iTup (K : PySem.W.Frag) (tl : TE) : TI := fun σ H R => tl σ H fun x H1 => ∃ a, x = .ref a ∧ (∃ xs, SqT K H1 a xs) ∧ R (Itt K a) H1
theorem pi_list {l : Expr} {tl : TE} (hl : PE X l tl) : PI X tg l (iList X.K tl) := by
 intro pins s σ H R I h
 refine thn (hl pins s σ H _ I h) fun v s1 ⟨x, H1, I1, r1, q1⟩ => ?_
 obtain ⟨a, e, ⟨xs, hq⟩, q⟩ := q1
 subst e
 cases r1
 obtain ⟨its, rv, p, hz⟩ := I1.list hq
 refine wpAny_pyIter_list p.isList ?_
 refine ⟨s1.heap.objs.size, [s1.heap.objs.size], _, _, H1, rfl, I1.kept (t' := s1.toks) fun b o e => Heap.get?_push_of_some _ e, turn_list a _, ⟨_, Heap.get?_push_size _ rfl, rfl, rfl⟩, fun b hb => ?_, q⟩
 have e : b = s1.heap.objs.size := by simpa using hb
 subst e
 exact I1.fpOk (Nat.le_refl _) (I1.hok.fresh (Nat.le_refl _))
theorem pi_tup {l : Expr} {tl : TE} (hl : PE X l tl) : PI X tg l (iTup X.K tl) := by
 intro pins s σ H R I h
 refine thn (hl pins s σ H _ I h) fun v s1 ⟨x, H1, I1, r1, q1⟩ => ?_
 obtain ⟨a, e, ⟨xs, hq⟩, q⟩ := q1
 subst e
 cases r1
 obtain ⟨its, rv, p, hz⟩ := I1.tuple hq
 refine wpAny_pyIter_tuple (show s1.heap.IsTuple a its.toArray from p) ?_
 refine ⟨s1.heap.objs.size, [s1.heap.objs.size], _, _, H1, rfl, I1.kept (t' := s1.toks) fun b o e => Heap.get?_push_of_some _ e, turn_tuple a _, ⟨_, Heap.get?_push_size _ rfl, rfl, rfl⟩, fun b hb => ?_, q⟩
 have e : b = s1.heap.objs.size := by simpa using hb
 subst e
 exact I1.fpOk (Nat.le_refl _) (I1.hok.fresh (Nat.le_refl _))
theorem range_it {pins : List (Addr × Obj)} {σ : St} {H : Hp} {s : Shared} {R : It → Hp → Prop} {E : Value → Shared → Prop} {lo hi : Int} {t u v : Tok} {tk : Nat} (I : Inv X pins σ H s) (h1 : -(2 ^ 62) ≤ lo) (h2 : lo < 2 ^ 62) (h3 : -(2 ^ 62) ≤ hi) (h4 : hi < 2 ^ 62)
  (q : R (Itr lo (hi - lo).toNat) H) : wpAny (model X.prog X.w) X.A (pyIter (.ref s.heap.objs.size)) (PIE X pins σ tg R) E { s with heap := s.heap.push { cls := .type "range", data := .fields #[.int lo t, .int hi u, .int 1 v] }, toks := tk } := by
 refine wpAny_pyIter_range (IsRange.new ..) (small_one h1 h2 h3 h4) ?_
 have I1 : Inv X pins σ H { s with heap := s.heap.push { cls := .type "range", data := .fields #[.int lo t, .int hi u, .int 1 v] }, toks := tk } := I.kept fun b o e => Heap.get?_push_of_some _ e
 refine ⟨(s.heap.push { cls := .type "range", data := .fields #[.int lo t, .int hi u, .int 1 v] }).objs.size, [(s.heap.push { cls := .type "range", data := .fields #[.int lo t, .int hi u, .int 1 v] }).objs.size], _, _, H, rfl,
  I1.kept (t' := tk) fun b o e => Heap.get?_push_of_some _ e, turn_range _ lo (hi - lo).toNat, ?_, fun b hb => ?_, q⟩
 ·have e1 : lo + ((0 : Nat) : Int) * 1 = lo := by simp
  have e2 : (((hi - lo).toNat : Nat) : Int) - ((0 : Nat) : Int) = Builtin.Range.rangeSize lo hi 1 := by rw [rangeSize_one]; split <;> omega
  show IsRangeIter _ _ (lo + ((0 : Nat) : Int) * 1) ((((hi - lo).toNat : Nat) : Int) - ((0 : Nat) : Int)) 1
  rw [e1, e2]
  exact Heap.get?_push_size _ rfl
 ·have e : b = (s.heap.push { cls := .type "range", data := .fields #[.int lo t, .int hi u, .int 1 v] }).objs.size := by simpa using hb
  subst e
  exact I1.fpOk (Nat.le_refl _) (I1.hok.fresh (Nat.le_refl _))
def iRng1 (ta : TA) : TI := fun σ H R => ta σ H fun vs H1 => ∃ j : Int, vs = [.int j] ∧ -(2 ^ 62) ≤ j ∧ j < 2 ^ 62 ∧ R (Itr 0 j.toNat) H1
def iRng2 (ta : TA) : TI := fun σ H R => ta σ H fun vs H1 => ∃ i j : Int, vs = [.int i, .int j] ∧ (-(2 ^ 62) ≤ i ∧ i < 2 ^ 62 ∧ -(2 ^ 62) ≤ j ∧ j < 2 ^ 62) ∧ R (Itr i (j - i).toNat) H1
theorem pi_range1 {a : Expr} {ta : TA} {p pos : Pos} (hg : Gl X "range") (hm : X.mg "range" = none) (ha : PA X [a] ta) (hs : starEach [a] X.env = [(false, eval a X.env)] := by rfl) : PI X tg (.Call (.Name "range" p) [a] [] pos) (iRng1 ta) := by
 intro pins s σ H R I h
 refine Call_ (ld_blt I hg hm boot_range (PyProof.Rows.callWith_type1 (thn (ha pos pins s σ H _ I h) fun us s1 ⟨vs, H1, I1, r1, q1⟩ => ?_) hs rfl))
 obtain ⟨j, e, q1, q2, q⟩ := q1
 subst e
 cases r1 with
 | cons r rr =>
  cases rr
  obtain ⟨t, rfl⟩ := r
  exact call_range_1 (range_it I1 (by omega) (by omega) q1 q2 (by simpa using q))
theorem pi_range2 {a b : Expr} {ta : TA} {p pos : Pos} (hg : Gl X "range") (hm : X.mg "range" = none) (ha : PA X [a, b] ta) (hs : starEach [a, b] X.env = [(false, eval a X.env), (false, eval b X.env)] := by rfl) (hs2 : starEach [b] X.env = [(false, eval b X.env)] := by rfl) :
  PI X tg (.Call (.Name "range" p) [a, b] [] pos) (iRng2 ta) := by
 intro pins s σ H R I h
 refine Call_ (ld_blt I hg hm boot_range (PyProof.Rows.callWith_type1 (thn (ha pos pins s σ H _ I h) fun us s1 ⟨vs, H1, I1, r1, q1⟩ => ?_) (by rw [hs, hs2]) (by rw [hs2]; rfl)))
 obtain ⟨i, j, e, ⟨q1, q2, q3, q4⟩, q⟩ := q1
 subst e
 cases r1 with
 | cons r rr =>
  cases rr with
  | cons r' rr =>
   cases rr
   obtain ⟨t, rfl⟩ := r
   obtain ⟨t', rfl⟩ := r'
   exact call_range_2 (range_it I1 q1 q2 q3 q4 q)
def tFor (wi : TI) (g : TG) (tb : TS) : TS := fun D σ H => wi σ H fun J H1 => ∃ W : Nat → Nat → St → Hp → Prop, (∃ m, W 0 m σ H1) ∧ ∀ i m σ H, W i m σ H →
 (J.stop i H ∧ D.nx σ H) ∨ (J.go i H ∧ ∃ N : St → Hp → Prop, (∀ σ' H', N σ' H' → ∃ m', m' < m ∧ W (i + 1) m' σ' H') ∧ ∀ x H', J.yld i H x H' → g x σ H' fun σ2 H2 => tb { D with nx := N, ct := N, bk := D.nx } σ2 H2)
def pinsAt (fp : List Addr) (h : Heap) : List (Addr × Obj) := fp.filterMap fun b => (h.get? b).map fun o => (b, o)
theorem mem_pinsAt {fp : List Addr} {h : Heap} {b : Addr} {o : Obj} (hb : b ∈ fp) (e : h.get? b = some o) : (b, o) ∈ pinsAt fp h := List.mem_filterMap.mpr ⟨b, hb, by rw [e]; rfl⟩
theorem of_pinsAt {fp : List Addr} {h : Heap} {p : Addr × Obj} (hp : p ∈ pinsAt fp h) : p.1 ∈ fp ∧ h.get? p.1 = some p.2 := by
 obtain ⟨b, hb, e⟩ := List.mem_filterMap.mp hp
 cases q : h.get? b with
 | none => rw [q] at e; cases e
 | some o =>
  rw [q] at e
  have e' : (b, o) = p := Option.some.inj e
  subst e'
  exact ⟨hb, q⟩
theorem Inv.pinned {pins : List (Addr × Obj)} {σ : St} {H : Hp} {s : Shared} {fp : List Addr} (I : Inv X pins σ H s) (hf : ∀ b ∈ fp, FpOk X pins H b) (ho : ∀ b ∈ fp, ∃ o, s.heap.get? b = some o ∧ ∀ v, o.data ≠ .cell v) : Inv X (pins ++ pinsAt fp s.heap) σ H s :=
 I.pins_of fun p hp => (List.mem_append.mp hp).elim (fun z => I.pin p (List.mem_append_right _ z)) fun z => by
  obtain ⟨hb, e⟩ := of_pinsAt z
  obtain ⟨f0, f1, f2, _⟩ := hf p.1 hb
  obtain ⟨o, e', d⟩ := ho p.1 hb
  rw [e] at e'; cases e'
  exact ⟨e, f0, f1, f2, d⟩
theorem Inv.unpinned {pins pl : List (Addr × Obj)} {σ : St} {H : Hp} {s : Shared} (I : Inv X (pins ++ pl) σ H s) : Inv X pins σ H s := I.pins_of fun p hp => I.pin p (List.mem_append_right _ (List.mem_append_left _ hp))
theorem ps_for {iter : Expr} {body : List Stmt} {wi : TI} {g : TG} {tb : TS} {pos : Pos} (hp : PassesOwn (model X.prog X.w) X.A X.env X.xe) (hc : X.calm = true) (hi : PI X tg iter wi) (hg : PG X tg g) (hb : PSs X body tb)
  (hs : ∀ x, foldedSetIterable iter X.env x = pure x := by intro _; rfl) : PS X (.For tg iter body [] pos) (tFor wi g tb) := by
 intro pins s σ H D I h
 refine wpAny_For (thn (hi pins s σ H _ I h) fun v s1 h1 => thn h1 fun itv s2 h2 => ?_) hs
 obtain ⟨it, fp, tn, J, H2, e, I2, T, st2, f2, W, ⟨m0, w0⟩, turn⟩ := h2
 subst e
 -- what stays true of the iterator's objects through the loop
 have stat : ∀ {H' : Hp}, (∀ b ∈ fp, H' b = none) → ∀ b ∈ fp, FpOk X pins H' b := fun hn b hb => ⟨hn b hb, (f2 b hb).2⟩
 refine codeAny_forLoop_any (fun n s' => ∃ i σ' H', Inv X pins σ' H' s' ∧ tn i s'.heap ∧ (∀ b ∈ fp, H' b = none) ∧ W i n σ' H') ?_ m0 ⟨0, σ, H2, I2, st2, fun b hb => (f2 b hb).1, w0⟩
 rintro n s3 ⟨i, σ3, H3, I3, st3, fr3, w3⟩
 rcases turn i n σ3 H3 w3 with ⟨stop, qn⟩ | ⟨go, N, hN, step⟩
 ·refine wpAny_passesOwn hp (thn (T.done X rfl rfl rfl hc i pins s3 σ3 H3 X.xe I3 (stat fr3) st3 stop) fun r s4 ⟨hr, I4⟩ => ?_)
  subst hr
  exact wpAny_execs_nil ⟨σ3, H3, I4, qn⟩
 ·refine wpAny_passesOwn hp (thn (T.item X rfl rfl rfl hc i pins s3 σ3 H3 X.xe I3 (stat fr3) st3 go) fun r s4 ⟨u, hr, h4⟩ => ?_)
  subst hr
  refine wpAny_passesOwn hp (thn h4 fun _ s5 ⟨x, H5, I5, r5, y5, st5, fr5⟩ => ?_)
  have I5' := I5.pinned (stat fr5) (T.obj _ _ st5)
  refine wpAny_passesOwn hp (thn (hg _ s5 σ3 H5 x u _ I5' r5 (step x H5 y5)) fun _ s6 ⟨σ6, H6, I6, q6⟩ => ?_)
  refine wpAny_passesOwn hp (thn (hb _ s6 σ6 H6 _ I6 q6) fun f s7 q7 => ?_)
  have again : ∀ {σ7 : St} {H7 : Hp}, Inv X (pins ++ pinsAt fp s5.heap) σ7 H7 s7 → N σ7 H7 → ∃ m, m < n ∧ ∃ i σ' H', Inv X pins σ' H' s7 ∧ tn i s7.heap ∧ (∀ b ∈ fp, H' b = none) ∧ W i m σ' H' := fun {σ7 H7} I7 n7 => by
   obtain ⟨m', hm, w7⟩ := hN σ7 H7 n7
   refine ⟨m', hm, i + 1, σ7, H7, I7.unpinned, T.keep _ _ _ st5 fun b hb o e => (I7.pin (b, o) (List.mem_append_right _ (List.mem_append_right _ (mem_pinsAt hb e)))).1, fun b hb => ?_, w7⟩
   obtain ⟨o, e, d⟩ := T.obj _ _ st5 b hb
   exact (I7.pin (b, o) (List.mem_append_right _ (List.mem_append_right _ (mem_pinsAt hb e)))).2.1
  cases f with
  | next => obtain ⟨σ7, H7, I7, n7⟩ := q7; exact again I7 n7
  | cont => obtain ⟨σ7, H7, I7, n7⟩ := q7; exact again I7 n7
  | brk => obtain ⟨σ7, H7, I7, q7⟩ := q7; exact ⟨σ7, H7, I7.unpinned, q7⟩
  | ret v => obtain ⟨x7, σ7, H7, I7, r7, q7⟩ := q7; exact ⟨x7, σ7, H7, I7.unpinned, r7, q7⟩
end
theorem for_list {K : PySem.W.Frag} {a : Addr} {xs : List V} {g : TG} {tb : TS} {D : Ends} {σ : St} {H : Hp} (Pv : Nat → St → Hp → Prop) (h0 : Pv 0 σ H) (hl : ∀ i σ H, i ≤ xs.length → Pv i σ H → SqL K H a xs)
  (hs : ∀ i x σ H, xs[i]? = some x → Pv i σ H → g x σ H fun σ2 H2 => tb { D with nx := Pv (i + 1), ct := Pv (i + 1), bk := D.nx } σ2 H2) (hd : ∀ σ H, Pv xs.length σ H → D.nx σ H) :
  ∃ W : Nat → Nat → St → Hp → Prop, (∃ m, W 0 m σ H) ∧ ∀ i m σ H, W i m σ H →
   ((Itl K a).stop i H ∧ D.nx σ H) ∨ ((Itl K a).go i H ∧ ∃ N : St → Hp → Prop, (∀ σ' H', N σ' H' → ∃ m', m' < m ∧ W (i + 1) m' σ' H') ∧ ∀ x H', (Itl K a).yld i H x H' → g x σ H' fun σ2 H2 => tb { D with nx := N, ct := N, bk := D.nx } σ2 H2) := by
 refine ⟨fun i m σ H => m = xs.length - i ∧ i ≤ xs.length ∧ Pv i σ H, ⟨xs.length, by simp, Nat.zero_le _, h0⟩, ?_⟩
 rintro i m σ H ⟨rfl, hi, p⟩
 have q := hl i σ H hi p
 by_cases hlt : i < xs.length
 ·refine .inr ⟨⟨xs, xs[i], q, by simp [hlt]⟩, Pv (i + 1), fun σ' H' p' => ⟨xs.length - (i + 1), by omega, rfl, hlt, p'⟩, fun x H' y => ?_⟩
  obtain ⟨e, y⟩ := y
  subst e
  exact hs i x σ _ (y xs q) p
 ·have e : i = xs.length := by omega
  subst e
  exact .inl ⟨⟨xs, q, Nat.le_refl _⟩, hd σ H p⟩
theorem for_tup {K : PySem.W.Frag} {a : Addr} {xs : List V} {g : TG} {tb : TS} {D : Ends} {σ : St} {H : Hp} (Pv : Nat → St → Hp → Prop) (h0 : Pv 0 σ H) (hl : ∀ i σ H, i ≤ xs.length → Pv i σ H → SqT K H a xs)
  (hs : ∀ i x σ H, xs[i]? = some x → Pv i σ H → g x σ H fun σ2 H2 => tb { D with nx := Pv (i + 1), ct := Pv (i + 1), bk := D.nx } σ2 H2) (hd : ∀ σ H, Pv xs.length σ H → D.nx σ H) :
  ∃ W : Nat → Nat → St → Hp → Prop, (∃ m, W 0 m σ H) ∧ ∀ i m σ H, W i m σ H →
   ((Itt K a).stop i H ∧ D.nx σ H) ∨ ((Itt K a).go i H ∧ ∃ N : St → Hp → Prop, (∀ σ' H', N σ' H' → ∃ m', m' < m ∧ W (i + 1) m' σ' H') ∧ ∀ x H', (Itt K a).yld i H x H' → g x σ H' fun σ2 H2 => tb { D with nx := N, ct := N, bk := D.nx } σ2 H2) := by
 refine ⟨fun i m σ H => m = xs.length - i ∧ i ≤ xs.length ∧ Pv i σ H, ⟨xs.length, by simp, Nat.zero_le _, h0⟩, ?_⟩
 rintro i m σ H ⟨rfl, hi, p⟩
 have q := hl i σ H hi p
 by_cases hlt : i < xs.length
 ·refine .inr ⟨⟨xs, xs[i], q, by simp [hlt]⟩, Pv (i + 1), fun σ' H' p' => ⟨xs.length - (i + 1), by omega, rfl, hlt, p'⟩, fun x H' y => ?_⟩
  obtain ⟨e, y⟩ := y
  subst e
  exact hs i x σ _ (y xs q) p
 ·have e : i = xs.length := by omega
  subst e
  exact .inl ⟨⟨xs, q, Nat.le_refl _⟩, hd σ H p⟩
theorem for_range {lo : Int} {n : Nat} {g : TG} {tb : TS} {D : Ends} {σ : St} {H : Hp} (Pv : Nat → St → Hp → Prop) (h0 : Pv 0 σ H)
  (hs : ∀ i σ H, i < n → Pv i σ H → g (.int (lo + i)) σ H fun σ2 H2 => tb { D with nx := Pv (i + 1), ct := Pv (i + 1), bk := D.nx } σ2 H2) (hd : ∀ σ H, Pv n σ H → D.nx σ H) :
  ∃ W : Nat → Nat → St → Hp → Prop, (∃ m, W 0 m σ H) ∧ ∀ i m σ H, W i m σ H →
   ((Itr lo n).stop i H ∧ D.nx σ H) ∨ ((Itr lo n).go i H ∧ ∃ N : St → Hp → Prop, (∀ σ' H', N σ' H' → ∃ m', m' < m ∧ W (i + 1) m' σ' H') ∧ ∀ x H', (Itr lo n).yld i H x H' → g x σ H' fun σ2 H2 => tb { D with nx := N, ct := N, bk := D.nx } σ2 H2) := by
 refine ⟨fun i m σ H => m = n - i ∧ i ≤ n ∧ Pv i σ H, ⟨n, by simp, Nat.zero_le _, h0⟩, ?_⟩
 rintro i m σ H ⟨rfl, hi, p⟩
 by_cases hlt : i < n
 ·refine .inr ⟨hlt, Pv (i + 1), fun σ' H' p' => ⟨n - (i + 1), by omega, rfl, hlt, p'⟩, fun x H' y => ?_⟩
  obtain ⟨e, y⟩ := y
  subst e y
  exact hs i σ _ hlt p
 ·have e : i = n := by omega
  subst e
  exact .inl ⟨Nat.le_refl _, hd σ H p⟩
end L2
namespace L2
open PySem PySem.Spec PyProof.Rows
abbrev R2 := V → V → Hp → VK → Prop
def OpR (X : Cx) (f : Value → Value → Sem Value) (r : R2) : Prop :=
 ∀ (pins : List (Addr × Obj)) (s : Shared) (σ : St) (H : Hp) (x y : V) (v u : Value) (Q : VK), Inv X pins σ H s → RelV x v → RelV y u → r x y H Q →
  wpAny (model X.prog X.w) X.A (f v u) (EP X pins σ Q) X.xe s
def UnR (X : Cx) (f : Value → Sem Value) (r : V → Hp → VK → Prop) : Prop :=
 ∀ (pins : List (Addr × Obj)) (s : Shared) (σ : St) (H : Hp) (x : V) (v : Value) (Q : VK), Inv X pins σ H s → RelV x v → r x H Q →
  wpAny (model X.prog X.w) X.A (f v) (EP X pins σ Q) X.xe s
def CallR (X : Cx) (f : Value) (r : List V → Hp → VK → Prop) : Prop :=
 ∀ (pins : List (Addr × Obj)) (s : Shared) (σ : St) (H : Hp) (xs : List V) (us : List Value) (Q : VK), Inv X pins σ H s → Vals xs us → r xs H Q →
  wpAny (model X.prog X.w) X.A (call f us) (EP X pins σ Q) X.xe s
def tOp (r : R2) (ta tb : TE) : TE := fun σ H Q => ta σ H fun x H1 => tb σ H1 fun y H2 => r x y H2 Q
def tUn (r : V → Hp → VK → Prop) (ta : TE) : TE := fun σ H Q => ta σ H fun x H1 => r x H1 Q
def rI (C : Int → Int → Prop) (g : Int → Int → V) : R2 := fun x y H Q => ∃ i j, x = .int i ∧ y = .int j ∧ C i j ∧ Q (g i j) H
def rI0 (g : Int → Int → V) : R2 := fun x y H Q => ∃ i j, x = .int i ∧ y = .int j ∧ Q (g i j) H
def rU (g : Int → V) : V → Hp → VK → Prop := fun x H Q => ∃ i, x = .int i ∧ Q (g i) H
section
variable {X : Cx} {a b c : Expr} {ta tb tc : TE} {pos : Pos}
theorem binT (ha : PE X a ta) (hb : PE X b tb) {pins : List (Addr × Obj)} {s : Shared} {σ : St} {H : Hp} {R : V → V → Hp → Prop} (I : Inv X pins σ H s)
  (h : ta σ H fun x H1 => tb σ H1 fun y H2 => R x y H2) {Q : Value → Shared → Prop} {f : Value → Value → Sem Value}
  (hf : ∀ v u s2 x y H2, Inv X pins σ H2 s2 → RelV x v → RelV y u → R x y H2 → wpAny (model X.prog X.w) X.A (f v u) Q X.xe s2) :
  wpAny (model X.prog X.w) X.A (eval a X.env) (fun v s₁ => wpAny (model X.prog X.w) X.A (eval b X.env) (fun u s₂ => wpAny (model X.prog X.w) X.A (f v u) Q X.xe s₂) X.xe s₁) X.xe s := by
 refine thn (ha pins s σ H _ I h) fun v s1 ⟨x, H1, I1, r1, q1⟩ => ?_
 refine thn (hb pins s1 σ H1 _ I1 q1) fun u s2 ⟨y, H2, I2, r2, q2⟩ => ?_
 exact hf v u s2 x y H2 I2 r1 r2 q2
theorem pe_op {op : Operator} {r : R2} (ho : OpR X (binaryOp op) r) (ha : PE X a ta) (hb : PE X b tb) : PE X (.BinOp a op b pos) (tOp r ta tb) := by
 intro pins s σ H Q I h
 exact wpAny_BinOp (binT ha hb I h fun v u s2 x y H2 I2 rx ry q => ho pins s2 σ H2 x y v u Q I2 rx ry q)
theorem pe_un {op : UnaryOp} {r : V → Hp → VK → Prop} (ho : UnR X (unaryOp op) r) (ha : PE X a ta) : PE X (.UnaryOp op a pos) (tUn r ta) := by
 intro pins s σ H Q I h
 exact UnaryOp_ (thn (ha pins s σ H _ I h) fun v s1 ⟨x, H1, I1, r1, q1⟩ => ho pins s1 σ H1 x v Q I1 r1 q1)
theorem opI {f : Value → Value → Sem Value} {C : Int → Int → Prop} {g : Int → Int → Int}
  (rule : ∀ (i j : Int) (t u : Tok) (s : Shared) (Q : Value → Shared → Prop) (E : Value → Shared → Prop), C i j → Q (.int (g i j) s.toks) { s with toks := s.toks + 1 } → wpAny (model X.prog X.w) X.A (f (.int i t) (.int j u)) Q E s) :
  OpR X f (rI C fun i j => .int (g i j)) := by
 intro pins s σ H x y v u Q I rx ry h
 obtain ⟨i, j, rfl, rfl, hc, q⟩ := h
 obtain ⟨t, rfl⟩ := rx
 obtain ⟨t', rfl⟩ := ry
 exact rule i j t t' s _ _ hc ⟨.int (g i j), H, I.tok _, ⟨_, rfl⟩, q⟩
theorem opI0 {f : Value → Value → Sem Value} {g : Int → Int → Int}
  (rule : ∀ (i j : Int) (t u : Tok) (s : Shared) (Q : Value → Shared → Prop) (E : Value → Shared → Prop), Q (.int (g i j) s.toks) { s with toks := s.toks + 1 } → wpAny (model X.prog X.w) X.A (f (.int i t) (.int j u)) Q E s) :
  OpR X f (rI0 fun i j => .int (g i j)) := by
 intro pins s σ H x y v u Q I rx ry h
 obtain ⟨i, j, rfl, rfl, q⟩ := h
 obtain ⟨t, rfl⟩ := rx
 obtain ⟨t', rfl⟩ := ry
 exact rule i j t t' s _ _ ⟨.int (g i j), H, I.tok _, ⟨_, rfl⟩, q⟩
theorem opB0 {f : Value → Value → Sem Value} {g : Int → Int → Bool}
  (rule : ∀ (i j : Int) (t u : Tok) (s : Shared) (Q : Value → Shared → Prop) (E : Value → Shared → Prop), Q (.bool (g i j)) s → wpAny (model X.prog X.w) X.A (f (.int i t) (.int j u)) Q E s) :
  OpR X f (rI0 fun i j => .bl (g i j)) := by
 intro pins s σ H x y v u Q I rx ry h
 obtain ⟨i, j, rfl, rfl, q⟩ := h
 obtain ⟨t, rfl⟩ := rx
 obtain ⟨t', rfl⟩ := ry
 exact rule i j t t' s _ _ ⟨.bl (g i j), H, I, rfl, q⟩
def CDiv (i j : Int) : Prop := 0 < j ∧ j < 1073741824
def CPow (i j : Int) : Prop := 0 ≤ j ∧ j ≤ 1000000 ∧ i.natAbs < 2 ^ 64
def CMul (i j : Int) : Prop := (-(2 ^ 64) < i ∧ i < 2 ^ 64) ∨ (-(2 ^ 64) < j ∧ j < 2 ^ 64)
theorem CMul.ok {i j : Int} (h : CMul i j) : IntMulOk i j := by
 rcases h with ⟨h1, h2⟩ | ⟨h1, h2⟩
 ·exact .of_left (intBits_le_64 h1 h2)
 ·exact .of_right (intBits_le_64 h1 h2)
theorem op_add : OpR X (binaryOp .Add) (rI0 fun i j => .int (i + j)) := opI0 fun _ _ _ _ _ _ _ q => add_int q
theorem op_sub : OpR X (binaryOp .Sub) (rI0 fun i j => .int (i - j)) := opI0 fun _ _ _ _ _ _ _ q => sub_int q
theorem op_mul : OpR X (binaryOp .Mult) (rI CMul fun i j => .int (i * j)) := opI fun _ _ _ _ _ _ _ hc q => mul_int q hc.ok
theorem op_fdiv : OpR X (binaryOp .FloorDiv) (rI CDiv fun i j => .int (i / j)) := opI fun i j _ _ _ _ _ hc q => by
 have h1 : (0 : Int) < j := hc.1
 have h2 : j < 1073741824 := hc.2
 exact floordiv_int (by omega) (by rw [Int.fdiv_eq_ediv_of_nonneg i (by omega)]; exact q) (.inl (PyProof.noPylong_small (by omega)))
theorem op_mod : OpR X (binaryOp .Mod) (rI (fun _ j => 0 < j) fun i j => .int (i % j)) := opI fun i j _ _ _ _ _ hc q => by
 have h1 : (0 : Int) < j := hc
 exact mod_int' (by omega) (by rw [Int.fmod_eq_emod_of_nonneg i (by omega)]; exact q)
theorem op_pow : OpR X (binaryOp .Pow) (rI CPow fun i j => .int (i ^ j.toNat)) := opI fun _ _ _ _ _ _ _ hc q => pow_int_small hc.1 hc.2.1 hc.2.2 q
theorem unI {f : Value → Sem Value} {g : Int → Int}
  (rule : ∀ (i : Int) (t : Tok) (s : Shared) (Q : Value → Shared → Prop) (E : Value → Shared → Prop), Q (.int (g i) s.toks) { s with toks := s.toks + 1 } → wpAny (model X.prog X.w) X.A (f (.int i t)) Q E s) :
  UnR X f (rU fun i => .int (g i)) := by
 intro pins s σ H x v Q I rx h
 obtain ⟨i, rfl, q⟩ := h
 obtain ⟨t, rfl⟩ := rx
 exact rule i t s _ _ ⟨.int (g i), H, I.tok _, ⟨_, rfl⟩, q⟩
theorem un_neg : UnR X (unaryOp .USub) (rU fun i => .int (-i)) := unI fun _ _ _ _ _ q => neg_int q
end
def scal : V → V → Bool
 | .non, .non => true | .non, .int _ => true | .int _, .non => true | .non, .bl _ => true | .bl _, .non => true | .non, .str _ => true | .str _, .non => true
 | .int _, .int _ => true | .bl _, .bl _ => true | .str _, .str _ => true | .byt _, .byt _ => true
 | .int _, .str _ => true | .str _, .int _ => true | .bl _, .str _ => true | .str _, .bl _ => true
 | _, _ => false
def rEq : R2 := fun x y H Q => scal x y = true ∧ Q (.bl (decide (x = y))) H
def rNe : R2 := fun x y H Q => scal x y = true ∧ Q (.bl (!decide (x = y))) H
theorem dec_int {i j : Int} : decide (V.int i = V.int j) = (i == j) := by
 rw [Bool.eq_iff_iff]
 simp
theorem dec_bl {i j : Bool} : decide (V.bl i = V.bl j) = (i == j) := by
 rw [Bool.eq_iff_iff]
 simp
theorem dec_str {i j : Str} : decide (V.str i = V.str j) = (i == j) := by
 rw [Bool.eq_iff_iff]
 simp
theorem dec_byt {i j : Array UInt8} : decide (V.byt i = V.byt j) = (i.toList == j.toList) := by
 rw [Bool.eq_iff_iff]
 cases i
 cases j
 simp
section
variable {X : Cx} {a b c : Expr} {ta tb tc : TE} {pos : Pos}
theorem fin_bl {pins : List (Addr × Obj)} {σ : St} {H : Hp} {s : Shared} {Q : VK} {k k' : Bool} (I : Inv X pins σ H s) (q : Q (.bl k) H) (e : k = k') : EP X pins σ Q (.bool k') s := by
 subst e
 exact ⟨.bl k, H, I, rfl, q⟩
theorem op_eq : OpR X (compareOp .Eq) rEq := by
 intro pins s σ H x y v u Q I rx ry h
 obtain ⟨hs, q⟩ := h
 cases x with
 | non =>
  cases rx
  cases y with
  | non => cases ry; exact PySem.EqNone.eq_none_none (fin_bl I q (by simp))
  | bl j => cases ry; exact PySem.EqNone.eq_none_bool (fin_bl I q (by simp))
  | int j => obtain ⟨t', rfl⟩ := ry; exact PySem.EqNone.eq_none_int (fin_bl I q (by simp))
  | str j => obtain ⟨t', rfl⟩ := ry; exact PySem.EqNone.eq_none_str (fin_bl I q (by simp))
  | _ => exact absurd (show false = true from hs) Bool.false_ne_true
 | bl i =>
  cases rx
  cases y with
  | non => cases ry; exact PySem.EqNone.eq_bool_none (fin_bl I q (by simp))
  | bl j => cases ry; exact eq_bool (fin_bl I q dec_bl)
  | str j => obtain ⟨t', rfl⟩ := ry; exact PySem.EqMixed.eq_bool_str (fin_bl I q (by simp))
  | _ => exact absurd (show false = true from hs) Bool.false_ne_true
 | int i =>
  obtain ⟨t, rfl⟩ := rx
  cases y with
  | non => cases ry; exact PySem.EqNone.eq_int_none (fin_bl I q (by simp))
  | int j => obtain ⟨t', rfl⟩ := ry; exact eq_int (fin_bl I q dec_int)
  | str j => obtain ⟨t', rfl⟩ := ry; exact PySem.EqMixed.eq_int_str (fin_bl I q (by simp))
  | _ => exact absurd (show false = true from hs) Bool.false_ne_true
 | str i =>
  obtain ⟨t, rfl⟩ := rx
  cases y with
  | non => cases ry; exact PySem.EqNone.eq_str_none (fin_bl I q (by simp))
  | bl j => cases ry; exact PySem.EqMixed.eq_str_bool (fin_bl I q (by simp))
  | int j => obtain ⟨t', rfl⟩ := ry; exact PySem.EqMixed.eq_str_int (fin_bl I q (by simp))
  | str j => obtain ⟨t', rfl⟩ := ry; exact eq_str (fin_bl I q dec_str)
  | _ => exact absurd (show false = true from hs) Bool.false_ne_true
 | byt i =>
  obtain ⟨t, rfl⟩ := rx
  cases y with
  | byt j => obtain ⟨t', rfl⟩ := ry; exact PySem.W.eq_bytes (fin_bl I q dec_byt)
  | _ => exact absurd (show false = true from hs) Bool.false_ne_true
 | _ => cases y <;> exact absurd (show false = true from hs) Bool.false_ne_true
theorem op_ne : OpR X (compareOp .NotEq) rNe := by
 intro pins s σ H x y v u Q I rx ry h
 obtain ⟨hs, q⟩ := h
 cases x with
 | non =>
  cases rx
  cases y with
  | non => cases ry; exact PySem.EqNone.ne_none_none (fin_bl I q (by simp))
  | bl j => cases ry; exact PySem.EqNone.ne_none_bool (fin_bl I q (by simp))
  | int j => obtain ⟨t', rfl⟩ := ry; exact PySem.EqNone.ne_none_int (fin_bl I q (by simp))
  | str j => obtain ⟨t', rfl⟩ := ry; exact PySem.EqNone.ne_none_str (fin_bl I q (by simp))
  | _ => exact absurd (show false = true from hs) Bool.false_ne_true
 | bl i =>
  cases rx
  cases y with
  | non => cases ry; exact PySem.EqNone.ne_bool_none (fin_bl I q (by simp))
  | bl j => cases ry; exact ne_bool (fin_bl I q (congrArg not dec_bl))
  | str j => obtain ⟨t', rfl⟩ := ry; exact PySem.EqMixed.ne_bool_str (fin_bl I q (by simp))
  | _ => exact absurd (show false = true from hs) Bool.false_ne_true
 | int i =>
  obtain ⟨t, rfl⟩ := rx
  cases y with
  | non => cases ry; exact PySem.EqNone.ne_int_none (fin_bl I q (by simp))
  | int j => obtain ⟨t', rfl⟩ := ry; exact ne_int (fin_bl I q (congrArg not dec_int))
  | str j => obtain ⟨t', rfl⟩ := ry; exact PySem.EqMixed.ne_int_str (fin_bl I q (by simp))
  | _ => exact absurd (show false = true from hs) Bool.false_ne_true
 | str i =>
  obtain ⟨t, rfl⟩ := rx
  cases y with
  | non => cases ry; exact PySem.EqNone.ne_str_none (fin_bl I q (by simp))
  | bl j => cases ry; exact PySem.EqMixed.ne_str_bool (fin_bl I q (by simp))
  | int j => obtain ⟨t', rfl⟩ := ry; exact PySem.EqMixed.ne_str_int (fin_bl I q (by simp))
  | str j => obtain ⟨t', rfl⟩ := ry; exact ne_str (fin_bl I q (congrArg not dec_str))
  | _ => exact absurd (show false = true from hs) Bool.false_ne_true
 | byt i =>
  obtain ⟨t, rfl⟩ := rx
  cases y with
  | byt j => obtain ⟨t', rfl⟩ := ry; exact PySem.W.ne_bytes (fin_bl I q (congrArg not dec_byt))
  | _ => exact absurd (show false = true from hs) Bool.false_ne_true
 | _ => cases y <;> exact absurd (show false = true from hs) Bool.false_ne_true
theorem op_lt : OpR X (compareOp .Lt) (rI0 fun i j => .bl (decide (i < j))) := opB0 fun _ _ _ _ _ _ _ q => lt_int q
theorem op_le : OpR X (compareOp .LtE) (rI0 fun i j => .bl (decide (i ≤ j))) := opB0 fun _ _ _ _ _ _ _ q => le_int q
theorem op_gt : OpR X (compareOp .Gt) (rI0 fun i j => .bl (decide (j < i))) := opB0 fun _ _ _ _ _ _ _ q => gt_int q
theorem op_ge : OpR X (compareOp .GtE) (rI0 fun i j => .bl (decide (j ≤ i))) := opB0 fun _ _ _ _ _ _ _ q => ge_int q
theorem op_isN : OpR X (compareOp .Is) (fun x y H Q => y = .non ∧ Q (.bl (decide (x = .non))) H) := by
  intro pins s σ H x y v u Q I rx ry h
  obtain ⟨rfl, q⟩ := h
  cases ry
  refine is_none_gen (fin_bl I q ?_)
  cases x <;> first
    | (cases rx; rfl)
    | (obtain ⟨t, rfl⟩ := rx; rfl)
theorem op_notN : OpR X (compareOp .IsNot) (fun x y H Q => y = .non ∧ Q (.bl (!decide (x = .non))) H) := by
  intro pins s σ H x y v u Q I rx ry h
  obtain ⟨rfl, q⟩ := h
  cases ry
  refine isnot_none_gen (fin_bl I q ?_)
  cases x <;> first
    | (cases rx; rfl)
    | (obtain ⟨t, rfl⟩ := rx; rfl)
theorem nomark (b : Expr) {op : CmpOp} (h : op ≠ .In := by decide) (h2 : op ≠ .NotIn := by decide) : behindInMarks op b = false := by
 have e1 : (op == CmpOp.In) = false := by cases op <;> first | rfl | exact absurd rfl h
 have e2 : (op == CmpOp.NotIn) = false := by cases op <;> first | rfl | exact absurd rfl h2
 cases b <;> simp [behindInMarks, e1, e2]
theorem pe_cmpR {op : CmpOp} {r : R2} (ho : OpR X (compareOp op) r) (ha : PE X a ta) (hb : PE X b tb) (hm : behindInMarks op b = false) : PE X (.Compare a [op] [b] pos) (tOp r ta tb) := by
 intro pins s σ H Q I h
 exact wpAny_Compare1 (binT ha hb I h fun v u s2 x y H2 I2 rx ry q => ho pins s2 σ H2 x y v u Q I2 rx ry q) hm
theorem isEmpty_of {xs : List V} {its : List Value} (r : Vals xs its) : (!its.toArray.isEmpty) = !xs.isEmpty := by
 cases r <;> simp
theorem line63 : (sizeLine : Nat) < 2 ^ 63 := by rw [sizeLine_eq]; decide
theorem vals1 {x : V} {us : List Value} (r : Vals [x] us) : ∃ u, us = [u] ∧ RelV x u := by
 cases r with
 | cons r1 r2 => cases r2; exact ⟨_, rfl, r1⟩
theorem vals2 {x y : V} {us : List Value} (r : Vals [x, y] us) : ∃ u w', us = [u, w'] ∧ RelV x u ∧ RelV y w' := by
 cases r with
 | cons r1 r2 =>
  cases r2 with
  | cons r3 r4 => cases r4; exact ⟨_, _, rfl, r1, r3⟩
theorem call_max2 (hc : X.calm = true) : CallR X (.builtin "max") (fun xs H Q => ∃ i j, xs = [.int i, .int j] ∧ Q (.int (if j > i then j else i)) H) := by
 intro pins s σ H xs us Q I r h
 obtain ⟨i, j, rfl, q⟩ := h
 obtain ⟨u, w', rfl, ⟨t, rfl⟩, ⟨t', rfl⟩⟩ := vals2 r
 refine max_two_ints (I.ok.hd hc) fun h' tk k => ⟨_, H, I.kept k, ?_, q⟩
 by_cases hj : j > i
 ·rw [if_pos hj, if_pos hj]; exact ⟨_, rfl⟩
 ·rw [if_neg hj, if_neg hj]; exact ⟨_, rfl⟩
theorem call_min2 (hc : X.calm = true) : CallR X (.builtin "min") (fun xs H Q => ∃ i j, xs = [.int i, .int j] ∧ Q (.int (if j < i then j else i)) H) := by
 intro pins s σ H xs us Q I r h
 obtain ⟨i, j, rfl, q⟩ := h
 obtain ⟨u, w', rfl, ⟨t, rfl⟩, ⟨t', rfl⟩⟩ := vals2 r
 refine min_two_ints (I.ok.hd hc) fun h' tk k => ⟨_, H, I.kept k, ?_, q⟩
 by_cases hj : j < i
 ·rw [if_pos hj, if_pos hj]; exact ⟨_, rfl⟩
 ·rw [if_neg hj, if_neg hj]; exact ⟨_, rfl⟩
theorem call_int1 : CallR X (.type "int") (fun xs H Q => (∃ i, xs = [.int i] ∧ Q (.int i) H) ∨ ∃ k, xs = [.bl k] ∧ Q (.int (if k then 1 else 0)) H) := by
 intro pins s σ H xs us Q I r h
 rcases h with ⟨i, rfl, q⟩ | ⟨k, rfl, q⟩
 ·obtain ⟨u, rfl, t, rfl⟩ := vals1 r
  exact call_int_int ⟨.int i, H, I, ⟨_, rfl⟩, q⟩
 ·obtain ⟨u, rfl, r1⟩ := vals1 r
  cases r1
  exact call_int_bool ⟨.int (if k then 1 else 0), H, I.tok _, ⟨_, rfl⟩, q⟩
theorem call_divmod : CallR X (.builtin "divmod") (fun xs H Q => ∃ i j, xs = [.int i, .int j] ∧ CDiv i j ∧ ∀ p, H p = none → Q (.ref p) (upd H p (.tup [.int (i / j), .int (i % j)]))) := by
 intro pins s σ H xs us Q I r h
 obtain ⟨i, j, rfl, ⟨h1, h2⟩, q⟩ := h
 obtain ⟨u, w', rfl, ⟨t, rfl⟩, ⟨t', rfl⟩⟩ := vals2 r
 refine divmod_int (by omega) ?_ (.inl (PyProof.noPylong_small (by omega)))
 rw [Int.fdiv_eq_ediv_of_nonneg i (by omega), Int.fmod_eq_emod_of_nonneg i (by omega)]
 have hn : H s.heap.objs.size = none := I.hok.fresh (Nat.le_refl _)
 refine ⟨.ref s.heap.objs.size, _, ?_, rfl, q _ hn⟩
 refine I.laid (fun b o e => Heap.get?_push_of_some _ e) (Nat.le_refl _) ⟨by simp only [List.length_cons, List.length_nil]; rw [sizeLine_eq]; decide, [.int (i / j) s.toks, .int (i % j) (s.toks + 1)], .cons ⟨_, rfl⟩ (.cons ⟨_, rfl⟩ .nil), ?_⟩
 exact ⟨_, Heap.get?_push_size s.heap rfl, rfl, 0, rfl⟩
end
end L2
namespace L2
open PySem PySem.Spec PyProof.Rows
structure ObjM (h : Heap) (x dx C : Addr) (mA : Str → Option Value) : Prop where
 obj : h.get? x = some (PySem.W.instObj C dx)
 ns : h.Ns1 dx mA
 ne : dx ≠ x
section
variable {prog : Program} {w : World} {A : Around} {E : Value → Shared → Prop} {s : Shared} {K : PySem.W.Frag} {x dx C f : Addr} {mA : Str → Option Value} {name : Str} {v : Value}
end
section
variable {P : Program} {w : World} {H H' : Hp} {h h' : Heap} {a C dx : Addr} {fs fs' : List (Str × V)}
end
structure Cls (K : PySem.W.Frag) (C : Addr) : Prop where
 pg : PySem.W.plainGet K C Str.empty = true
 hd : PySem.W.hasDictIn K C = true
 po : PySem.W.plainOver K C = true
 sa : PySem.W.findIn K (.ref C) "__setattr__" = some (some (.builtin "object.__setattr__"))
structure Con (K : PySem.W.Frag) (C : Addr) (f : Str) (v : V) (u : Value) : Prop where
 at_ : PySem.W.findIn K (.ref C) f = some (some u)
 rel : RelV v u
 get : PySem.W.specialIn K u "__get__" = some none
 cp : PySem.W.copiedNames.contains f = false
structure Meth (K : PySem.W.Frag) (C : Addr) (m : Str) (f : Addr) : Prop where
 at_ : PySem.W.findIn K (.ref C) m = some (some (.ref f))
 fn : PySem.W.isFn K (.ref f) = true
 kp : PySem.W.keepIn K (.ref f) = true
section
variable {X : Cx} {pins : List (Addr × Obj)} {σ : St} {H : Hp} {s : Shared} {a C dx : Addr} {fs : List (Str × V)} {f : Str} {v : V} {A : Around} {E : Value → Shared → Prop}
end
section
variable {X : Cx} {o e value : Expr} {f : Str} {pos pos' tpos : Pos} {ta tv : TE}
end
section
variable {X : Cx} {pins : List (Addr × Obj)} {σ : St} {H : Hp} {s : Shared} {A : Around} {E : Value → Shared → Prop} {Q : Value → Shared → Prop} {c : Value} {b : Bool}
inductive TyOf (K : PySem.W.Frag) (H : Hp) : V → Value → Prop where
 | non : TyOf K H .non (.type "NoneType")
 | bl (x : Bool) : TyOf K H (.bl x) (.type "bool")
 | int (i : Int) : TyOf K H (.int i) (.type "int")
 | str (x : Str) : TyOf K H (.str x) (.type "str")
 | flt (x : UInt64) : TyOf K H (.flt x) (.type "float")
 | lst {a : Addr} {xs : List V} (e : H a = some (.lst xs)) : TyOf K H (.ref a) (.type "list")
 | frz {a : Addr} {o : Obj} {xs : List V} (e : H a = some (.frz o (.lst xs))) : TyOf K H (.ref a) (.type "list")
 | tup {a : Addr} {xs : List V} (e : H a = some (.tup xs)) : TyOf K H (.ref a) (.type "tuple")
 | dK {a : Addr} {kvs : List (Key × V)} (e : H a = some (.dK kvs)) : TyOf K H (.ref a) (.type "dict")
 | dT {a : Addr} {kvs : List (List Key × V)} (e : H a = some (.dT kvs)) : TyOf K H (.ref a) (.type "dict")
 | ins {a C dx : Addr} {fs : List (Str × V)} (e : H a = some (.ins C dx fs)) (cl : Cls K C) (ha : PySem.W.findIn K (.ref C) "__class__" = some (some (.builtin "object.__class__")))
   (hn : PySem.W.specialIn K (.builtin "object.__class__") "__get__" = some (some (.builtin "getset_descriptor.__get__"))) (htk : PySem.W.takesIn K (.builtin "object.__class__") = some true)
   (hm : PySem.W.mroIn K C (.type "object") = some true) : TyOf K H (.ref a) (.ref C)
end
end L2
namespace L2
open PySem PySem.Spec PyProof.Rows
structure Room (k : Nat) (A : Around) : Prop where
 hd : A.handled = none
 dp : A.depth + 3 * k + 5 < recursionLimit
 un : A.units + 16 * k + 200 < cLine
 gd : A.guards = some []
theorem Room.mono {j k : Nat} {A : Around} (r : Room k A) (h : j ≤ k) : Room j A := ⟨r.hd, by have := r.dp; omega, by have := r.un; omega, r.gd⟩
theorem Room.deeper {k : Nat} {A : Around} (r : Room (k + 1) A) (env : Env) : Room k (A.deeper env) :=
 ⟨r.hd, by have := r.dp; show A.depth + 1 + 3 * k + 5 < _; omega, by have := r.un; show A.units + 3 + 16 * k + 200 < _; omega, r.gd⟩
theorem Room.depth {k : Nat} {A : Around} (r : Room k A) : A.depth < recursionLimit := by have := r.dp; omega
theorem Room.units0 {k : Nat} {A : Around} (r : Room k A) : A.units < cLine := by have := r.un; omega
def tNil : TA := fun _ H Q => Q [] H
def tCons (ta : TE) (tr : TA) : TA := fun σ H Q => ta σ H fun x H1 => tr σ H1 fun xs H2 => Q (x :: xs) H2
section
variable {X : Cx} {e : Expr} {es : List Expr} {te : TE} {t : TA} {pos : Pos}
theorem pa_nil : PA X [] tNil := fun _ _ _ _ H Q I h => Calls.spliced_nil ⟨[], H, I, .nil, h⟩
theorem pa_cons (ha : PE X e te) (hr : PA X es t) (hs : starEach (e :: es) X.env = (false, eval e X.env) :: starEach es X.env := by rfl) : PA X (e :: es) (tCons te t) := by
 intro pos pins s σ H Q I h
 rw [hs]
 show wpAny _ _ (spliced ((false, eval e X.env) :: backTo pos (starEach es X.env))) _ _ s
 refine Calls.spliced_cons (thn (ha pins s σ H _ I h) fun u s1 ⟨x, H1, I1, r1, q1⟩ => ?_)
 exact thn (hr pos pins s1 σ H1 _ I1 q1) fun us s2 ⟨xs, H2, I2, r2, q2⟩ => ⟨x :: xs, H2, I2, .cons r1 r2, q2⟩
end
abbrev Sp := List V → Hp → VK → XK → Prop
abbrev CXT := List Env → Hp → Shared → XK → Value → Shared → Prop
structure Env0 (P : Program) (w : World) (K : PySem.W.Frag) (mg : Str → Option Value) (base : Heap) (A : Around) (outer : List Env) (s : Shared) (H : Hp) : Prop where
 frames : A.frames = some outer
 mod : Mod K mg base
 bs : ∀ b o, base.get? b = some o → s.heap.get? b = some o ∧ H b = none
 bsz : base.objs.size ≤ s.heap.objs.size
 funs : s.heap.FunFrames base outer
 frf : ∀ b ∈ frs outer, H b = none
 hok : HOk P w H s.heap
 bare : AllBare s.gens
def CE (outer : List Env) (P : Program) (w : World) (H : Hp) (s : Shared) (Q : VK) (u : Value) (s' : Shared) : Prop :=
 ∃ v H', s'.os = s.os ∧ AllBare s'.gens ∧ Un (frs outer) [] H H' s.heap s'.heap ∧ HOk P w H' s'.heap ∧ RelV v u ∧ Q v H'
def CR (CX : CXT) (outer : List Env) (P : Program) (w : World) (H : Hp) (s : Shared) (Q : VK) (E : XK) (r : Result) (s' : Shared) : Prop :=
 match r with
 | .ok (.ret u) => CE outer P w H s Q u s'
 | .ok _ => False
 | .error e => CX outer H s E e s'
structure FnOk (P : Program) (w : World) (K : PySem.W.Frag) (mg : Str → Option Value) (base : Heap) (CX : CXT) (k : Nat) (f : Addr) (fd : FuncData) (ps : List Str) (sp : Sp) : Prop where
 len : ∀ vs H Q E, sp vs H Q E → vs.length = ps.length
 run : ∀ (A : Around) (outer : List Env) (s : Shared) (H : Hp) (args : Args) (us : List Value) (vs : List V) (Q : VK) (E : XK), Room k A → Env0 P w K mg base A outer s H → BindsTo s fd args (ps.zip us) → Vals vs us → sp vs H Q E →
  codeAny (model P w) A (.call (.ref f) args) (CR CX outer P w H s Q E) s
section
variable {X : Cx} {pins : List (Addr × Obj)} {σ : St} {H : Hp} {s s' : Shared}
theorem Inv.env0 (I : Inv X pins σ H s) : Env0 X.prog X.w X.K X.mg X.base X.A X.stack s H :=
 ⟨I.ok.frames, I.ok.mod, I.bs, Nat.le_trans I.ok.bsz I.sz, I.stack, I.stkFree, I.hok, I.bare⟩
theorem Inv.after {Q : VK} {u : Value} (I : Inv X pins σ H s) (h : CE X.stack X.prog X.w H s Q u s') : EP X pins σ Q u s' := by
 obtain ⟨v, H', os, bare, un, hok, r, q⟩ := h
 obtain ⟨hh, g, d, t, os'⟩ := s'
 obtain rfl : os' = s.os := os
 exact ⟨v, H', I.call (h' := hh) (g' := g) (d' := d) (t' := t) (ch := []) un hok bare (fun b z => absurd z (by simp)), r, q⟩
end
def tCall (sp : Sp) (dvs : List V) (E : XK) (t : TA) : TE := fun σ H Q => t σ H fun vs H1 => sp (vs ++ dvs) H1 Q E
def Binds (K : PySem.W.Frag) (fd : FuncData) (ps : List Str) (ds : List Value) : Prop :=
 ∀ (s : Shared) (us : List Value), K.In s.heap → (us ++ ds).length = ps.length → BindsTo s fd ⟨us, []⟩ (ps.zip (us ++ ds))
theorem Binds.all {K : PySem.W.Frag} {fd : FuncData} {ps : List Str} (h : ∀ us : List Value, us.length = ps.length → bindArgs fd ⟨us, []⟩ = pure (ps.zip us)) : Binds K fd ps [] := fun s us _ hl => by
 rw [List.append_nil] at hl ⊢
 exact .of_eq (h us hl)
def Passes (CX : CXT) (X : Cx) (E : XK) : Prop := ∀ (pins : List (Addr × Obj)) (σ : St) (H : Hp) (s : Shared) (e : Value) (s' : Shared), Inv X pins σ H s → CX X.stack H s E e s' → X.xe e s'
section
variable {X : Cx} {CX : CXT} {k : Nat} {f C : Addr} {fd : FuncData} {ps : List Str} {sp : Sp} {dvs : List V} {ds : List Value} {E : XK} {x m : Str} {p pos apos : Pos} {e o : Expr} {es : List Expr} {ta : TE} {t : TA}
theorem run_fn {pins : List (Addr × Obj)} {σ : St} {H : Hp} {s : Shared} {Q : VK} {us : List Value} {vs : List V} (F : FnOk X.prog X.w X.K X.mg X.base CX k f fd ps sp) (hr : Room k X.A) (hb : Binds X.K fd ps ds) (hd : Vals dvs ds) (hx : Passes CX X E)
  (I : Inv X pins σ H s) (r : Vals vs us) (h : sp (vs ++ dvs) H Q E) : wpAny (model X.prog X.w) X.A (call (.ref f) us) (EP X pins σ Q) X.xe s := by
 have r2 : Vals (vs ++ dvs) (us ++ ds) := r.append hd
 have hl : (us ++ ds).length = ps.length := by rw [← r2.length]; exact F.len _ _ _ _ h
 refine wpAny_call (codeAny_mono (F.run X.A X.stack s H ⟨us, []⟩ (us ++ ds) (vs ++ dvs) Q E hr I.env0 (hb s us I.kIn hl) r2 h) fun r s' hq => ?_)
 cases r with
 | error e => exact hx pins σ H s e s' I hq
 | ok fl =>
  cases fl with
  | ret u => exact I.after hq
  | next => exact False.elim hq
  | brk => exact False.elim hq
  | cont => exact False.elim hq
theorem pe_call (F : FnOk X.prog X.w X.K X.mg X.base CX k f fd ps sp) (hr : Room k X.A) (hg : Gl X x) (hm : X.mg x = some (.ref f)) (hk : PySem.W.keepIn X.K (.ref f) = true) (hb : Binds X.K fd ps ds) (hd : Vals dvs ds) (hx : Passes CX X E)
  (ha : PA X (e :: es) t) (hdb : (x == ("__debug__" : Str)) = false := by decide) (he : starEach (e :: es) X.env = (false, eval e X.env) :: starEach es X.env := by rfl) (hpl : (backTo pos (starEach es X.env)).any (·.1) = false := by rfl) :
  PE X (.Call (.Name x p) (e :: es) [] pos) (tCall sp dvs E t) := by
 intro pins s σ H Q I h
 refine wpAny_Call_Name_kw (ld_glob I hg hm ?_ hdb)
 refine PySem.W.callWith_K (h₀ := X.base) I.ok.mod.kin hk (thn (ha pos pins s σ H _ I h) fun us s1 ⟨vs, H1, I1, r, q⟩ => ⟨I1.kIn, ?_⟩) he hpl
 exact run_fn F hr hb hd hx I1 r q
structure Mk (K : PySem.W.Frag) (C f : Addr) : Prop where
 makes : PySem.W.makesIn K C = true
 init : PySem.W.findIn K (.ref C) "__init__" = some (some (.ref f))
 fn : PySem.W.isFn K (.ref f) = true
 kp : PySem.W.keepIn K (.ref C) = true
end
section
variable {X : Cx} {CX : CXT} {k : Nat} {f C : Addr} {fd : FuncData} {ps ks : List Str} {sp : Sp} {E : XK} {x m : Str} {p pos apos kpos : Pos} {e o : Expr} {es : List Expr} {kws : List Keyword} {te ta : TE} {t tk : TA} {nm : Option Str}
structure KBinds (K : PySem.W.Frag) (fd : FuncData) (ps ks : List Str) (g : List Value → List Value → List Value) (gV : List V → List V → List V) : Prop where
 to : ∀ (s : Shared) (us ws : List Value), K.In s.heap → (g us ws).length = ps.length → BindsTo s fd ⟨us, ks.zip ws⟩ (ps.zip (g us ws))
 rel : ∀ {vs : List V} {us : List Value} {zs : List V} {ws : List Value}, Vals vs us → Vals zs ws → Vals (gV vs zs) (g us ws)
variable {g : List Value → List Value → List Value} {gV : List V → List V → List V}
end
structure FnScope (N P : List Str) (sc : Scope) : Prop where
 kind : sc.kind = .function
 co : sc.isCoroutine = false
 gen : sc.isGenerator = false
 nd : N.Nodup
 pre : N.take P.length = P
 par : ∀ x ∈ P, sc.names.lookup x = some .local ∨ sc.names.lookup x = some .cell
 nofree : ∀ y ∈ sc.names, y.2 ≠ .free
theorem bindL_out {kindOf : Str → Option NameKind} {x : Str} : ∀ {binds : List (Str × Value)} {m : Str → Option Value}, (∀ v, (x, v) ∉ binds) → bindL kindOf binds m x = m x
  | [], _, _ => rfl
  | (n, v) :: r, m, h => by
    unfold bindL
    rw [bindL_out fun w hw => h w (List.mem_cons_of_mem _ hw)]
    split
    · have : x ≠ n := by rintro rfl; exact h v List.mem_cons_self
      simp [this]
    · rfl
theorem bindC_out {kindOf : Str → Option NameKind} {x : Str} : ∀ {binds : List (Str × Value)} {m : Str → Option Value}, (∀ v, (x, v) ∉ binds) → bindC kindOf binds m x = m x
  | [], _, _ => rfl
  | (n, v) :: r, m, h => by
    unfold bindC
    rw [bindC_out fun w hw => h w (List.mem_cons_of_mem _ hw)]
    split
    · rfl
    · have : x ≠ n := by rintro rfl; exact h v List.mem_cons_self
      simp [this]
theorem bindL_get {kindOf : Str → Option NameKind} {x : Str} {v : Value} : ∀ {P : List Str} {vs : List Value} {i : Nat} {m : Str → Option Value}, P.Nodup → P[i]? = some x → vs[i]? = some v → kindOf x = some .local →
  bindL kindOf (P.zip vs) m x = some v
 | [], _, _, _, _, h, _, _ => by simp at h
 | _ :: _, [], _, _, _, _, h, _ => by simp at h
 | p :: P, w :: vs, 0, m, nd, h1, h2, hk => by
  simp at h1 h2; subst h1; subst h2
  show bindL kindOf ((p, w) :: P.zip vs) m p = _
  unfold bindL
  rw [bindL_out fun v hv => (List.nodup_cons.mp nd).1 (List.of_mem_zip hv).1, if_pos hk]
  simp
 | p :: P, w :: vs, i + 1, m, nd, h1, h2, hk => by
  show bindL kindOf ((p, w) :: P.zip vs) m x = _
  unfold bindL
  exact bindL_get (i := i) (List.nodup_cons.mp nd).2 (by simpa using h1) (by simpa using h2) hk
theorem bindC_get {kindOf : Str → Option NameKind} {x : Str} {v : Value} : ∀ {P : List Str} {vs : List Value} {i : Nat} {m : Str → Option Value}, P.Nodup → P[i]? = some x → vs[i]? = some v → kindOf x ≠ some .local →
  bindC kindOf (P.zip vs) m x = some v
 | [], _, _, _, _, h, _, _ => by simp at h
 | _ :: _, [], _, _, _, _, h, _ => by simp at h
 | p :: P, w :: vs, 0, m, nd, h1, h2, hk => by
  simp at h1 h2; subst h1; subst h2
  show bindC kindOf ((p, w) :: P.zip vs) m p = _
  unfold bindC
  rw [bindC_out fun v hv => (List.nodup_cons.mp nd).1 (List.of_mem_zip hv).1, if_neg hk]
  simp
 | p :: P, w :: vs, i + 1, m, nd, h1, h2, hk => by
  show bindC kindOf ((p, w) :: P.zip vs) m x = _
  unfold bindC
  exact bindC_get (i := i) (List.nodup_cons.mp nd).2 (by simpa using h1) (by simpa using h2) hk
def start (N : List Str) (vs : List V) : St := vs.map some ++ List.replicate (N.length - vs.length) none
def cxOf (CX : CXT) (P : Program) (w : World) (K : PySem.W.Frag) (mg : Str → Option Value) (base : Heap) (N : List Str) (qual : Str) (scope : Scope) (f : Addr) (cd : Value) (A : Around) (outer : List Env) (s : Shared) (H : Hp) (E : XK) : Cx where
 prog := P
 w := w
 K := K
 mg := mg
 base := base
 A := A.deeper (envOfC qual scope s.heap.objs.size f cd)
 N := N
 s₀ := s
 H₀ := H
 env := envOfC qual scope s.heap.objs.size f cd
 outer := outer
 stack := envOfC qual scope s.heap.objs.size f cd :: outer
 ex := []
 calm := true
 fn := fun _ => true
 pn := []
 xe := fun e s' => wpAny (model P w) (A.deeper (envOfC qual scope s.heap.objs.size f cd)) (leaving (envOfC qual scope s.heap.objs.size f cd) e) (fun _ s'' => CX outer H s E e s'') (fun e' s'' => CX outer H s E e' s'') s'
theorem cell_has {sc : Scope} {n : Nat} {x : Str} (h : sc.names.lookup x = some .cell) : ∃ c, (cellsFrom n sc.names []).lookup x = some c := by
 have q := PySem.W.cellsFrom_some sc.names n [] (.inl h)
 exact Option.isSome_iff_exists.mp q
theorem inv_start {CX : CXT} {P : Program} {w : World} {K : PySem.W.Frag} {mg : Str → Option Value} {base : Heap} {N ps : List Str} {qual : Str} {scope : Scope} {f : Addr} {cd : Value} {A : Around} {outer : List Env} {s s1 : Shared} {H : Hp} {E : XK} {us : List Value} {vs : List V}
  (S : FnScope N ps scope) (hd : A.handled = none) (e0 : Env0 P w K mg base A outer s H) (hl : vs.length = ps.length) (r : Vals vs us)
  (x : InCallC s s.heap.objs.size (bindL (envOfC qual scope s.heap.objs.size f cd).kindOf (ps.zip us) fun _ => none) (cellsFrom (s.heap.objs.size + 1) scope.names []) (bindC (envOfC qual scope s.heap.objs.size f cd).kindOf (ps.zip us) fun _ => none) s1) :
  Inv (cxOf CX P w K mg base N qual scope f cd A outer s H E) [] (start N vs) H s1 := by
 have hpl : ps.length ≤ N.length := by have := congrArg List.length S.pre; rw [List.length_take] at this; omega
 obtain ⟨h1, tk, rfl, hk⟩ := x.done
 have noA : ∀ b : Addr, b ∉ (cxOf CX P w K mg base N qual scope f cd A outer s H E).ex := fun b z => absurd (show b ∈ ([] : List Addr) from z) (by simp)
 refine ⟨⟨e0.mod, S.kind, rfl, rfl, Nat.le_refl _, fun y z c h1 h2 => ?_, fun y hy => ?_, fun y c _ h => ?_, fun _ => hd, Around.frames_deeper e0.frames, .inr ⟨rfl, rfl⟩, fun b z => absurd z (noA b), e0.bs, e0.bsz, fun b _ _ => noA b, fun b z => absurd z (noA b), e0.funs, e0.frf⟩,
  rfl, e0.bare, Un.kept hk, ⟨_, x.toInCall.ns, fun i y v h1 h2 h3 => ?_⟩, fun y c h => ⟨_, x.cell y c h⟩, e0.hok.fresh (Nat.le_refl _), fun y c h => ?_, fun p hp => absurd (show p ∈ ([] : List (Addr × Obj)) from hp) (by simp), e0.hok.kept hk, ?_⟩
 ·exact name_of_addr x.apart (PySem.mem_of_lookup h1) (PySem.mem_of_lookup h2)
 ·have hy : scope.names.lookup y = some .cell ∨ scope.names.lookup y = some .free := hy
  rcases hy with hy | hy
  ·exact cell_has hy
  ·exact absurd rfl (S.nofree _ (PySem.mem_of_lookup hy))
 ·exact Nat.le_of_lt (x.above y c (PySem.mem_of_lookup h))
 ·have hi : i < vs.length := by
   unfold start at h2
   by_cases hi : i < vs.length
   ·exact hi
   ·rw [List.getElem?_append_right (by simpa using hi)] at h2
    rw [List.getElem?_replicate] at h2
    split at h2 <;> cases h2
  have ha : vs[i]? = some v := by
   unfold start at h2
   rw [List.getElem?_append_left (by simpa using hi), List.getElem?_map] at h2
   cases e : vs[i]? with
   | none => rw [e] at h2; cases h2
   | some a => rw [e] at h2; cases h2; rfl
  obtain ⟨u, hu, rv⟩ := r.get ha
  have hp : ps[i]? = some y := by
   rw [← S.pre, List.getElem?_take_of_lt (by omega)]; exact h1
  have ndP : ps.Nodup := by rw [← S.pre]; exact S.nd.sublist (List.take_sublist _ _)
  refine ⟨u, rv, ?_⟩
  rcases S.par y (List.mem_of_getElem? hp) with k | k
  ·exact .inl ⟨k, bindL_get ndP hp hu k⟩
  ·obtain ⟨c, e⟩ := cell_has (n := s.heap.objs.size + 1) k
   refine .inr ⟨.inl k, c, e, ?_⟩
   have q := x.cell y c e
   rw [bindC_get ndP hp hu (by show scope.names.lookup y ≠ _; rw [k]; decide)] at q
   exact q
 ·exact e0.hok.fresh (Nat.le_of_lt (x.above y c (PySem.mem_of_lookup h)))
 ·unfold start
  show _ = N.length
  rw [List.length_append, List.length_map, List.length_replicate]
  omega
theorem fn_of {CX : CXT} {P : Program} {w : World} {K : PySem.W.Frag} {mg : Str → Option Value} {base : Heap} {k : Nat} {f : Addr} {name qual : Str} {params : Arguments} {body : List Stmt} {scope : Scope} {dV kV doc pm cdv ct oc : Value} {an od : Option Addr}
  {osl : Array (Option Value)} {N ps : List Str} {sp : Sp} (lk : K.lookup f = some ⟨oc, od, .func (PySem.W.fnOf name qual params body scope dV kV doc pm an cdv ct), osl⟩) (hcd : PySem.W.codeIn K cdv qual = true) (S : FnScope N ps scope)
  (len : ∀ vs H Q E, sp vs H Q E → vs.length = ps.length)
  (hbody : ∀ (A : Around) (outer : List Env) (s : Shared) (H : Hp) (vs : List V) (Q : VK) (E : XK), Room k (A.deeper (envOfC qual scope s.heap.objs.size f cdv)) → sp vs H Q E →
   ∃ t, PSs (cxOf CX P w K mg base N qual scope f cdv A outer s H E) body t ∧ t { nx := fun _ H' => Q .non H', rt := Q } (start N vs) H) :
  FnOk P w K mg base CX (k + 1) f (PySem.W.fnOf name qual params body scope dV kV doc pm an cdv ct) ps sp := by
 refine ⟨len, fun A outer s H args us vs Q E hr e0 hb r hsp => ?_⟩
 have hl := len _ _ _ _ hsp
 have KX : K.In s.heap := e0.mod.kin.keeps fun b o e => (e0.bs b o e).1
 have lim : s.heap.NoLimit := e0.mod.nolimit.keeps fun b o e => (e0.bs b o e).1
 have hkind : ∀ y ∈ ps.zip us, scope.names.lookup y.1 = some .local ∨ (scope.names.lookup y.1 = some .cell ∧ ((cellsFrom (s.heap.objs.size + 1) scope.names []).lookup y.1).isSome = true) := fun ⟨n, v⟩ hy => by
  rcases S.par n (List.of_mem_zip hy).1 with q | q
  ·exact .inl q
  ·exact .inr ⟨q, PySem.W.cellsFrom_some _ _ _ (.inl q)⟩
 refine codeAny_call_function hr.depth (KX _ _ lk) rfl S.co S.gen rfl (PySem.W.codeRec_of KX hcd) (hb _ _ _ _ ?_)
 refine wpAny_newFunctionEnv_cells S.kind hkind fun env he s1 x => ?_
 subst he
 refine ⟨lim.keeps x.toInCall.keep, codeAny_func ?_⟩
 obtain ⟨t, ht, hq⟩ := hbody A outer s H vs Q E (hr.deeper _) hsp
 have I : Inv (cxOf CX P w K mg base N qual scope f cdv A outer s H E) [] (start N vs) H s1 := inv_start S hr.hd e0 hl r x
 refine wpAny_mono (ht [] s1 (start N vs) H _ I hq) (fun fl s' hs => ?_) fun e s' hs => hs
 have fin : ∀ {σ' : St} {H' : Hp} {v : V} {u : Value}, Inv (cxOf CX P w K mg base N qual scope f cdv A outer s H E) [] σ' H' s' → RelV v u → Q v H' → CE outer P w H s Q u s' :=
  fun {σ' H' v u} J rv q => ⟨v, H', J.os, J.bare, J.base, J.hok, rv, q⟩
 cases fl with
 | ret u =>
  obtain ⟨v, σ', H', J, rv, q⟩ := hs
  exact fin J rv q
 | next =>
  obtain ⟨σ', H', J, q⟩ := hs
  exact fin (v := V.non) (u := Value.none) J rfl q
 | brk =>
  obtain ⟨_, _, _, q⟩ := hs
  exact False.elim q
 | cont =>
  obtain ⟨_, _, _, q⟩ := hs
  exact False.elim q
end L2
namespace L2
open PySem PySem.Spec PyProof.Rows
section
variable {X : Cx} {x : Str} {p pos : Pos} {e : Expr} {es : List Expr} {t : TA} {id T : String} {r : List V → Hp → VK → Prop}
def tCB (r : List V → Hp → VK → Prop) (t : TA) : TE := fun σ H Q => t σ H fun vs H1 => r vs H1 Q
theorem pe_callB (hc : CallR X (.builtin id) r) (hg : Gl X x) (hm : X.mg x = none) (hv : bootBuiltins x = some (.builtin id)) (ha : PA X (e :: es) t) (hn : x ≠ "__name__" := by decide) (hdb : (x == ("__debug__" : Str)) = false := by decide)
  (he : starEach (e :: es) X.env = (false, eval e X.env) :: starEach es X.env := by rfl) (hpl : (backTo pos (starEach es X.env)).any (·.1) = false := by rfl) : PE X (.Call (.Name x p) (e :: es) [] pos) (tCB r t) := by
 intro pins s σ H Q I h
 refine wpAny_Call_Name_kw (ld_blt I hg hm hv ?_ hn hdb)
 exact PyProof.Rows.callWith_builtin1 (thn (ha pos pins s σ H _ I h) fun us s1 ⟨vs, H1, I1, r1, q1⟩ => hc pins s1 σ H1 vs us Q I1 r1 q1) he hpl
theorem pe_callTy (hc : CallR X (.type T) r) (hg : Gl X x) (hm : X.mg x = none) (hv : bootBuiltins x = some (.type T)) (ha : PA X (e :: es) t) (hn : x ≠ "__name__" := by decide) (hdb : (x == ("__debug__" : Str)) = false := by decide)
  (he : starEach (e :: es) X.env = (false, eval e X.env) :: starEach es X.env := by rfl) (hpl : (backTo pos (starEach es X.env)).any (·.1) = false := by rfl) : PE X (.Call (.Name x p) (e :: es) [] pos) (tCB r t) := by
 intro pins s σ H Q I h
 refine wpAny_Call_Name_kw (ld_blt I hg hm hv ?_ hn hdb)
 exact PyProof.Rows.callWith_type1 (thn (ha pos pins s σ H _ I h) fun us s1 ⟨vs, H1, I1, r1, q1⟩ => hc pins s1 σ H1 vs us Q I1 r1 q1) he hpl
end
end L2
namespace HT
open PySem PyProof.Rows
section
open PySem.SeqAt
open PySem.AutoSeq1 (wpAny_loadPart')
open PySem.MeetsSeq PySem.MeetsSeq2 PySem.MeetsSeq3
end
section
variable {prog : Program} {w : World} {A : Around} {E : Value → Shared → Prop} {s : Shared}
def sIx (n d : Nat) : Option Int → Nat
 | none => d
 | some v => if v < 0 then (v + (n : Int)).toNat else min v.toNat n
theorem sIx_nat (n d k : Nat) : sIx n d (some (k : Int)) = min k n := by
 show (if (k : Int) < 0 then ((k : Int) + (n : Int)).toNat else min (k : Int).toNat n) = min k n
 rw [if_neg (by omega), Int.toNat_natCast]
theorem sIx_le (n d : Nat) (hd : d ≤ n) (o : Option Int) : sIx n d o ≤ n := by
 cases o with
 | none => exact hd
 | some v =>
  show (if v < 0 then (v + (n : Int)).toNat else min v.toNat n) ≤ n
  by_cases hv : v < 0
  ·rw [if_pos hv]; omega
  ·rw [if_neg hv]; exact Nat.min_le_right _ _
theorem clip_eq (v : Int) (n d : Nat) : (if v < 0 then max (v + (n : Int)) 0 else min v (n : Int)) = ((sIx n d (some v) : Nat) : Int) := by
 show (if v < 0 then max (v + (n : Int)) 0 else min v (n : Int)) = (((if v < 0 then (v + (n : Int)).toNat else min v.toNat n) : Nat) : Int)
 by_cases hv : v < 0
 ·simp only [if_pos hv]; omega
 ·simp only [if_neg hv]; omega
theorem adjust_gen (lo hi : Option Int) (n : Nat) : Builtin.Slice.sliceAdjust lo hi 1 (n : Int) = (((sIx n 0 lo : Nat) : Int), ((sIx n n hi : Nat) : Int)) := by
 have h1 : ¬ ((1 : Int) < 0) := by omega
 unfold Builtin.Slice.sliceAdjust
 simp only [h1, if_false]
 refine Prod.ext ?_ ?_
 ·cases lo with
  | none => rfl
  | some v => exact clip_eq v n 0
 ·cases hi with
  | none => rfl
  | some v => exact clip_eq v n n
theorem places_gen (i j : Nat) : Builtin.Slice.slicePlaces (i : Int) (j : Int) 1 = j - i := by
 unfold Builtin.Slice.slicePlaces
 have h1 : (1 : Int) > 0 := by omega
 simp only [h1, if_true, Int.ediv_one]
 split <;> omega
theorem slicePart_ {v : Value} {o : Option Int} {Q : Option Int → Shared → Prop} (p : IsPart v o) (h : Q o s) : wpAny (model prog w) A (Builtin.Slice.slicePartIndex v) Q E s := by
 cases p with
 | none => exact slicePart_none h
 | int i t => exact slicePart_int h
theorem sliceApplied_gen {sl : Addr} {vl vu : Value} {lo hi : Option Int} {n : Nat} {Q : Int × Int × Nat → Shared → Prop} (hs : s.heap.IsSliceOf sl vl vu .none) (pl : IsPart vl lo) (pu : IsPart vu hi)
  (h : Q (((sIx n 0 lo : Nat) : Int), 1, sIx n n hi - sIx n 0 lo) s) : wpAny (model prog w) A (Builtin.Slice.sliceApplied (.ref sl) (pure (n : Int))) Q E s := by
 obtain ⟨os, hos, hcs, hds⟩ := id hs
 unfold Builtin.Slice.sliceApplied Builtin.Slice.sliceFields
 refine wpAny_bind (wpAny_bind (wpAny_field hos hds (x := vl) rfl (wpAny_bind (wpAny_field hos hds (x := vu) rfl (wpAny_bind (wpAny_field hos hds (x := .none) rfl (wpAny_pure ?_)))))))
 refine wpAny_bind (slicePart_none ?_)
 show wpAny _ _ (if ((1 : Int) == 0) = true then _ else _) _ _ s
 rw [if_neg (by decide)]
 refine wpAny_bind (slicePart_ pl (wpAny_bind (slicePart_ pu (wpAny_bind (wpAny_pure ?_)))))
 show wpAny _ _ (match Builtin.Slice.sliceAdjust lo hi 1 (n : Int) with | (lo, hi) => pure (lo, (1 : Int), Builtin.Slice.slicePlaces lo hi 1)) _ _ s
 rw [adjust_gen lo hi n]
 show wpAny _ _ (pure (((sIx n 0 lo : Nat) : Int), (1 : Int), Builtin.Slice.slicePlaces ((sIx n 0 lo : Nat) : Int) ((sIx n n hi : Nat) : Int) 1)) _ _ s
 rw [places_gen]
 exact wpAny_pure h
theorem pick_gen (xs : Array Value) (i k : Nat) : ((List.range k).filterMap fun (m : Nat) => xs[((i : Int) + (m : Int) * 1).toNat]?).toArray = ((xs.toList.drop i).take k).toArray := by
 have e : (fun (m : Nat) => xs[((i : Int) + (m : Int) * 1).toNat]?) = fun m => xs[i + m]? := by
  funext m
  have : ((i : Int) + (m : Int) * 1).toNat = i + m := by omega
  rw [this]
 rw [e]
 have := pick_run xs i k
 rw [List.filterMap_map] at this
 have e2 : ((fun x => xs[x]?) ∘ fun x => i + x) = fun m => xs[i + m]? := rfl
 rw [e2] at this
 rw [this]
theorem getItem_tuple_cut {t sl : Addr} {items : Array Value} {vl vu : Value} {lo hi : Option Int} {Q : Value → Shared → Prop} (ht : IsTup s.heap t items) (hs : s.heap.IsSliceOf sl vl vu .none) (pl : IsPart vl lo) (pu : IsPart vu hi)
  (hw : ¬ (sIx items.size 0 lo = 0 ∧ sIx items.size items.size hi = items.size))
  (h : Q (.ref s.heap.objs.size) { s with heap := s.heap.push { cls := .type "tuple", data := .seq ((items.toList.drop (sIx items.size 0 lo)).take (sIx items.size items.size hi - sIx items.size 0 lo)).toArray } })
  (hsz : items.size ≤ sizeLine) : wpAny (model prog w) A (getItem (.ref t) (.ref sl)) Q E s := by
 have htake : sizeOk (.seq ((items.toList.drop (sIx items.size 0 lo)).take (sIx items.size items.size hi - sIx items.size 0 lo)).toArray) := by
  show ((items.toList.drop (sIx items.size 0 lo)).take (sIx items.size items.size hi - sIx items.size 0 lo)).toArray.size ≤ sizeLine
  rw [List.size_toArray, List.length_take, List.length_drop, Array.length_toList]
  omega
 have hj : sIx items.size items.size hi ≤ items.size := sIx_le _ _ (Nat.le_refl _) hi
 obtain ⟨os, hos, hcs, hds⟩ := id hs
 have hTs : s.TypeIs (.ref sl) "slice" := ⟨os, hos, hcs⟩
 unfold getItem
 try with_reducible refine wpAny_holding ?_
 first | refine wpAny_bind (wpAny_pure ?_) | skip
 refine wpAny_bind (wpAny_sequenceKey ht.typeIs (by decide) ?_)
 refine wpAny_bind (wpAny_callSpecial?_slot (name := Str.ofString "__getitem__") ht.typeIs PyProof.Rows.slot_tuple_getitem
  (wpAny_call_entry PyProof.Rows.slot_tuple_getitem ht.typeIs entry_tuple_getitem ?_ (args_tuple_getitem _ _)))
 show wpAny _ _ (Builtin.Tuple.tupleItemsOf (.ref t) >>= _) _ _ s
 refine wpAny_bind (tupleItemsOf_ ht ?_)
 refine wpAny_bind (wpAny_typeOf hTs ?_)
 rw [if_pos (by decide)]
 refine wpAny_bind (sliceApplied_gen hs pl pu ?_)
 have hno : ¬ ((((sIx items.size 0 lo : Nat) : Int) == 0 && (1 : Int) == 1 && (sIx items.size items.size hi - sIx items.size 0 lo) == items.size) = true) := by
  intro q
  rw [Bool.and_eq_true, Bool.and_eq_true] at q
  have q1 : ((sIx items.size 0 lo : Nat) : Int) = 0 := eq_of_beq q.1.1
  have q2 : sIx items.size items.size hi - sIx items.size 0 lo = items.size := eq_of_beq q.2
  exact hw ⟨by omega, by omega⟩
 show wpAny _ _ (if (((sIx items.size 0 lo : Nat) : Int) == 0 && (1 : Int) == 1 && (sIx items.size items.size hi - sIx items.size 0 lo) == items.size) = true then _ else _) _ _ s
 rw [if_neg hno, pick_gen]
 first
  | exact wpAny_bind (m := Builtin.Tuple.tupleExact _) (wpAny_newObj_type (wpAny_pure ⟨_, rfl, wpAny_pure h⟩) htake)
  | exact wpAny_bind (m := Builtin.Tuple.tupleExact _) (wpAny_newObj_type (wpAny_bind (wpAny_pure (wpAny_pure ⟨_, rfl, wpAny_pure h⟩))) htake)
  | exact wpAny_bind (wpAny_bind (m := Builtin.Tuple.tupleExact _) (wpAny_newObj_type (wpAny_pure (wpAny_pure ⟨_, rfl, wpAny_pure h⟩)) htake))
  | exact wpAny_bind (wpAny_bind (m := Builtin.Tuple.tupleExact _) (wpAny_newObj_type (wpAny_pure ⟨_, rfl, wpAny_pure h⟩) htake))
end
end HT
namespace L2
open PySem PySem.Spec PyProof.Rows
abbrev TO := St → Hp → (Option Int → Hp → Prop) → Prop
def PO (X : Cx) (e : Option Expr) (t : TO) : Prop :=
 ∀ (pins : List (Addr × Obj)) (s : Shared) (σ : St) (H : Hp) (Q : Option Int → Hp → Prop), Inv X pins σ H s → t σ H Q →
  wpAny (model X.prog X.w) X.A (evalPart e X.env) (fun u s' => ∃ o H', Inv X pins σ H' s' ∧ IsPart u o ∧ Q o H') X.xe s
def tNoPart : TO := fun _ H Q => Q none H
def tPart (t : TE) : TO := fun σ H Q => t σ H fun x H1 => ∃ i, x = .int i ∧ Q (some i) H1
theorem intsAre_of {ns : List Int} : ∀ {us : List Value}, Vals (ns.map V.int) us → IntsAre us ns := by
 induction ns with
 | nil => intro us r; rw [List.map_nil] at r; cases r; exact .nil
 | cons n ns ih =>
  intro us r
  rw [List.map_cons] at r
  cases r with
  | cons r1 r2 =>
   obtain ⟨t, e⟩ := r1
   subst e
   exact .cons n t (ih r2)
section
variable {X : Cx} {e : Expr} {te : TE} {lo hi : Option Expr} {tl th : TO} {pos p2 : Pos}
theorem po_none : PO X none tNoPart := by
 intro pins s σ H Q I h
 rw [evalPart_none]
 exact wpAny_pure ⟨none, H, I, .none, h⟩
theorem po_some (h : PE X e te) : PO X (some e) (tPart te) := by
 intro pins s σ H Q I hw
 rw [evalPart_some]
 refine thn (h pins s σ H _ I hw) fun u s1 ⟨x, H1, I1, r1, q1⟩ => ?_
 obtain ⟨i, rfl, q⟩ := q1
 obtain ⟨t, rfl⟩ := r1
 exact ⟨some i, H1, I1, .int i t, q⟩
def SlR (X : Cx) (r : V → Option Int → Option Int → Hp → VK → Prop) : Prop :=
 ∀ (pins : List (Addr × Obj)) (s : Shared) (σ : St) (H : Hp) (x : V) (v vl vu : Value) (lo hi : Option Int) (sl : Addr) (Q : VK), Inv X pins σ H s → RelV x v → s.heap.IsSliceOf sl vl vu .none → IsPart vl lo → IsPart vu hi → r x lo hi H Q →
  ∃ T id, typeLookup (.type T) "__getitem__" = pure (some (.builtin id)) ∧ s.TypeIs v T ∧ wpAny (model X.prog X.w) X.A (getItem v (.ref sl)) (EP X pins σ Q) X.xe s
def tSl (r : V → Option Int → Option Int → Hp → VK → Prop) (te : TE) (tl th : TO) : TE := fun σ H Q => te σ H fun x H1 => tl σ H1 fun l H2 => th σ H2 fun u H3 => r x l u H3 Q
theorem pe_slice {r : V → Option Int → Option Int → Hp → VK → Prop} (hr : SlR X r) (he : PE X e te) (hl : PO X lo tl) (hu : PO X hi th) : PE X (.Subscript e (.Slice lo hi none p2) pos) (tSl r te tl th) := by
 intro pins s σ H Q I h
 refine Subscript_ (thn (he pins s σ H _ I h) fun v s1 ⟨x, H1, I1, r1, q1⟩ => ?_)
 refine wpAny_Slice (thn (hl pins s1 σ H1 _ I1 q1) fun vl s2 ⟨l, H2, I2, pl, q2⟩ => thn (hu pins s2 σ H2 _ I2 q2) fun vu s3 ⟨u, H3, I3, pu, q3⟩ => ?_)
 rw [evalPart_none]
 refine wpAny_pure ?_
 have I4 : Inv X pins σ H3 { s3 with heap := s3.heap.push { cls := .type "slice", data := .fields #[vl, vu, .none] } } := I3.kept (t' := s3.toks) fun b ob q => Heap.get?_push_of_some _ q
 obtain ⟨T, id, hT, ht, hg⟩ := hr pins { s3 with heap := s3.heap.push { cls := .type "slice", data := .fields #[vl, vu, .none] } } σ H3 x v vl vu l u s3.heap.objs.size Q I4 r1 (Heap.IsSliceOf.new ..) pl pu q3
 show wpAny (model X.prog X.w) X.A (subscriptTail e (.Slice lo hi none p2) v (.ref s3.heap.objs.size)) (EP X pins σ Q) X.xe { s3 with heap := s3.heap.push { cls := .type "slice", data := .fields #[vl, vu, .none] } }
 exact tail_any (ops := [.ref s3.heap.objs.size, v]) ht hT hg (by with_unfolding_all rfl)
def cutV (xs : List V) (lo hi : Option Int) : List V := (xs.drop (HT.sIx xs.length 0 lo)).take (HT.sIx xs.length xs.length hi - HT.sIx xs.length 0 lo)
theorem cutV_length (xs : List V) (lo hi : Option Int) : (cutV xs lo hi).length ≤ xs.length := by
 unfold cutV
 rw [List.length_take, List.length_drop]
 omega
end
end L2
namespace L2
open PySem PySem.Spec PyProof.Rows
def ixN (n : Nat) (i : Int) : Option Nat := if 0 ≤ i then (if i < n then some i.toNat else none) else if -(n : Int) ≤ i then some (i + n).toNat else none
def atI {α : Type} (xs : List α) (i : Int) : Option α := (ixN xs.length i).bind fun j => xs[j]?
theorem ixN_seq {n : Nat} {i : Int} {j : Nat} (h : ixN n i = some j) : seqIndex? i n = some j ∧ j < n ∧ -(n : Int) ≤ i ∧ i < n := by
 unfold ixN at h
 by_cases h0 : 0 ≤ i
 ·rw [if_pos h0] at h
  by_cases h1 : i < n
  ·rw [if_pos h1] at h
   have e : i.toNat = j := Option.some.inj h
   exact ⟨by rw [seqIndex_of h0 h1, e], by omega, by omega, h1⟩
  ·rw [if_neg h1] at h; cases h
 ·rw [if_neg h0] at h
  by_cases h1 : -(n : Int) ≤ i
  ·rw [if_pos h1] at h
   have e : (i + n).toNat = j := Option.some.inj h
   exact ⟨by rw [seqIndex_neg (by omega) h1, e], by omega, h1, by omega⟩
  ·rw [if_neg h1] at h; cases h
theorem atI_get {α : Type} {xs : List α} {i : Int} {v : α} (h : atI xs i = some v) : ∃ j, seqIndex? i xs.length = some j ∧ xs[j]? = some v ∧ j < xs.length ∧ -(xs.length : Int) ≤ i ∧ i < xs.length := by
 unfold atI at h
 cases e : ixN xs.length i with
 | none => rw [e] at h; cases h
 | some j =>
  rw [e] at h
  obtain ⟨h1, h2, h3, h4⟩ := ixN_seq e
  exact ⟨j, h1, h, h2, h3, h4⟩
theorem atI_nat {α : Type} {xs : List α} {j : Nat} {v : α} (h : xs[j]? = some v) : atI xs (j : Int) = some v := by
 have hj : j < xs.length := (List.getElem?_eq_some_iff.mp h).1
 have e : ixN xs.length (j : Int) = some j := by
  unfold ixN
  rw [if_pos (by omega), if_pos (by omega)]; simp
 unfold atI; rw [e]; exact h
theorem atI_last {α : Type} (xs : List α) (v : α) : atI (xs ++ [v]) (-1) = some v := by
 have hl : (xs ++ [v]).length = xs.length + 1 := by simp
 have e : ixN (xs ++ [v]).length (-1) = some xs.length := by
  unfold ixN
  rw [hl, if_neg (by decide), if_pos (by omega)]
  congr 1
  omega
 unfold atI
 rw [e]
 show (xs ++ [v])[xs.length]? = some v
 simp
def PlainIx (b : Expr) : Prop := ∀ o i, subscripted b false o i = operate [o, i] (getItem o i)
def IxR (X : Cx) (r : R2) : Prop :=
 ∀ (value slice : Expr) (pins : List (Addr × Obj)) (s : Shared) (σ : St) (H : Hp) (x y : V) (v u : Value) (Q : VK), Inv X pins σ H s → RelV x v → RelV y u → r x y H Q →
  subscripted slice false v u = operate [v, u] (getItem v u) → wpAny (model X.prog X.w) X.A (subscriptTail value slice v u) (EP X pins σ Q) X.xe s
def MtR (X : Cx) (id : String) (r : V → List V → Hp → VK → Prop) : Prop :=
 ∀ (pins : List (Addr × Obj)) (s : Shared) (σ : St) (H : Hp) (x : V) (xs : List V) (v : Value) (us : List Value) (Q : VK), Inv X pins σ H s → RelV x v → Vals xs us → r x xs H Q →
  wpAny (model X.prog X.w) X.A (call (.builtin id) (v :: us)) (EP X pins σ Q) X.xe s
section
variable {X : Cx} {a b : Expr} {ta tb : TE} {pos : Pos}
theorem pe_ix {r : R2} (hr : IxR X r) (ha : PE X a ta) (hb : PE X b tb) (hs : PlainIx b) : PE X (.Subscript a b pos) (tOp r ta tb) := by
 intro pins s σ H Q I h
 exact Subscript_ (binT ha hb I h fun v u s2 x y H2 I2 rx ry q => hr a b pins s2 σ H2 x y v u Q I2 rx ry q (hs _ _))
def rIxL (K : PySem.W.Frag) : R2 := fun x y H Q => ∃ p xs i v, x = .ref p ∧ y = .int i ∧ SqL K H p xs ∧ atI xs i = some v ∧ Q v H
def rIxT (K : PySem.W.Frag) : R2 := fun x y H Q => ∃ p xs i v, x = .ref p ∧ y = .int i ∧ SqT K H p xs ∧ atI xs i = some v ∧ Q v H
theorem ix_list : IxR X (rIxL X.K) := by
 intro value slice pins s σ H x y v u Q I rx ry h hs
 obtain ⟨p, xs, i, z, rfl, rfl, hq, he, q⟩ := h
 cases rx
 obtain ⟨t, rfl⟩ := ry
 obtain ⟨its, r, pl, hz⟩ := I.list hq
 obtain ⟨j, h1, h2, h3, h4, h5⟩ := atI_get he
 obtain ⟨w, ew, rw'⟩ := r.get h2
 have hl := r.length
 have hn := line63
 have fin : EP X pins σ Q w s := ⟨z, H, I, rw', q⟩
 by_cases h0 : 0 ≤ i
 ·have hj : i.toNat = j := by
   rw [seqIndex_of h0 h5] at h1
   exact Option.some.inj h1
  exact item_listR pl.isList h0 (by omega) (by rw [hj]; simpa using ew) fin hs
 ·have hj : (i + (its.toArray.size : Int)).toNat = j := by
   rw [seqIndex_neg (by omega) h4] at h1
   rw [List.size_toArray, ← hl]
   exact Option.some.inj h1
  exact subscriptTail_builtinR (x := w) pl.isList.typeIs slot_list_getitem.lookup
   (wpAny_getItem_list_neg (Q := fun r s' => r = w ∧ EP X pins σ Q r s') pl.isList (by omega) (by rw [List.size_toArray] <;> omega) (by omega) (by rw [hj]; simpa using ew) ⟨rfl, fin⟩) hs
theorem ix_tup : IxR X (rIxT X.K) := by
 intro value slice pins s σ H x y v u Q I rx ry h hs
 obtain ⟨p, xs, i, z, rfl, rfl, hq, he, q⟩ := h
 cases rx
 obtain ⟨t, rfl⟩ := ry
 obtain ⟨its, r, pl, hz⟩ := I.tuple hq
 obtain ⟨j, h1, h2, h3, h4, h5⟩ := atI_get he
 obtain ⟨w, ew, rw'⟩ := r.get h2
 have hl := r.length
 have hn := line63
 have fin : EP X pins σ Q w s := ⟨z, H, I, rw', q⟩
 exact subscriptTail_builtinR (x := w) pl.typeIs slot_tuple_getitem.lookup
  (getItem_tuple (j := j) (Q := fun r s' => r = w ∧ EP X pins σ Q r s') pl (by omega) (by omega) (by rw [List.size_toArray, ← hl]; exact h1) (by simpa using ew) ⟨rfl, fin⟩) hs
theorem mapSeq_set (its : List Value) (n j : Nat) (u : Value) : Obj.mapSeq (·.setIfInBounds j u) { cls := .type "list", data := .seq its.toArray n } = { cls := .type "list", data := .seq (its.set j u).toArray n } := by
 simp [Obj.mapSeq]
theorem Inv.lst {pins : List (Addr × Obj)} {σ : St} {H : Hp} {s : Shared} {p : Addr} {xs : List V} (I : Inv X pins σ H s) (h : H p = some (.lst xs)) :
  ∃ (its : List Value) (n : Nat), Vals xs its ∧ s.heap.get? p = some { cls := .type "list", data := .seq its.toArray n } ∧ xs.length ≤ sizeLine := by
 obtain ⟨z, its, n, r, e⟩ := I.hok p _ h
 exact ⟨its, n, r, e, z⟩
theorem Inv.lstUpd {pins : List (Addr × Obj)} {σ : St} {H : Hp} {s : Shared} {p : Addr} {xs ys : List V} {its its' : List Value} {n n' : Nat} {f : Obj → Obj} (I : Inv X pins σ H s) (h : H p = some (.lst xs))
  (ho : s.heap.get? p = some { cls := .type "list", data := .seq its.toArray n }) (hf : f { cls := .type "list", data := .seq its.toArray n } = { cls := .type "list", data := .seq its'.toArray n' }) (r : Vals ys its') (hz : ys.length ≤ sizeLine) (t : Nat) :
  Inv X pins σ (upd H p (.lst ys)) { s with heap := s.heap.update p f, toks := t } := by
 have e : (s.heap.update p f).get? p = some { cls := .type "list", data := .seq its'.toArray n' } := by
  rw [Heap.get?_update_self f ho (by rw [hf] <;> rfl), hf]
 refine I.write (x := p) (e := p) (by rw [h]; trivial) (.inl rfl) (fun b u hb q => (Heap.get?_update_other _ _ (Ne.symm hb)).trans q) ⟨_, e⟩ ?_
 exact ⟨hz, its', n', r, e⟩
def rSetL : V → V → V → Hp → (Hp → Prop) → Prop := fun o i v H Q => ∃ p xs k j, o = .ref p ∧ i = .int k ∧ H p = some (.lst xs) ∧ ixN xs.length k = some j ∧ Q (upd H p (.lst (xs.set j v)))
theorem set_list : PSet X rSetL := by
 intro pins s σ H o i v ov iv u Q I ro ri rv h
 obtain ⟨p, xs, k, j, rfl, rfl, hp, hj, q⟩ := h
 cases ro
 obtain ⟨t, rfl⟩ := ri
 obtain ⟨its, n, r, ho, hz⟩ := I.lst hp
 obtain ⟨h1, h2, h3, h4⟩ := ixN_seq hj
 have hl := r.length
 have hn := line63
 have I' : Inv X pins σ (upd H p (.lst (xs.set j v))) { s with heap := s.heap.update p (Obj.mapSeq (·.setIfInBounds j u)) } :=
  I.lstUpd hp ho (mapSeq_set its n j u) (r.set rv j) (by rw [List.length_set]; exact hz) s.toks
 by_cases h0 : 0 ≤ k
 ·have hk : k.toNat = j := by
   rw [seqIndex_of h0 h4] at h1
   exact Option.some.inj h1
  exact PySem.W.ki_setAt ho h0 (by omega) (by rw [List.size_toArray, ← hl]; exact h4) (by rw [hk]; exact ⟨_, I', q⟩)
 ·have hk : (k + (its.toArray.size : Int)).toNat = j := by
   rw [seqIndex_neg (by omega) h3] at h1
   rw [List.size_toArray, ← hl]
   exact Option.some.inj h1
  exact PySem.W.ki_setBack ho (by omega) (by rw [List.size_toArray, ← hl]; exact h3) (by omega) (by rw [hk]; exact ⟨_, I', q⟩)
theorem slice_bounds (lo hi : Option Int) (n : Nat) : (sliceBounds lo hi none n).1 = ((HT.sIx n 0 lo : Nat) : Int) ∧ (sliceBounds lo hi none n).2.1 = ((HT.sIx n n hi : Nat) : Int) ∧ (sliceBounds lo hi none n).2.2 = 1 := by
 refine ⟨?_, ?_, rfl⟩
 ·cases lo with
  | none => simp [sliceBounds, HT.sIx]
  | some i =>
   simp only [sliceBounds, HT.sIx, Option.getD_none, show (1 : Int) > 0 by decide, if_true]
   by_cases h : i < 0
   ·simp only [h, if_true] <;> omega
   ·simp only [h, if_false] <;> omega
 ·cases hi with
  | none => simp [sliceBounds, HT.sIx]
  | some i =>
   simp only [sliceBounds, HT.sIx, Option.getD_none, show (1 : Int) > 0 by decide, if_true]
   by_cases h : i < 0
   ·simp only [h, if_true] <;> omega
   ·simp only [h, if_false] <;> omega
theorem slicePick_cut (its : List Value) (lo hi : Option Int) : slicePick its.toArray lo hi none = ((its.drop (HT.sIx its.length 0 lo)).take (HT.sIx its.length its.length hi - HT.sIx its.length 0 lo)).toArray := by
 obtain ⟨h1, h2, h3⟩ := slice_bounds lo hi its.toArray.size
 unfold slicePick
 rw [h1, h2, h3]
 simp only [sliceRange_one, pick_run, List.size_toArray] <;> rfl
def rSlL (K : PySem.W.Frag) : V → Option Int → Option Int → Hp → VK → Prop := fun x lo hi H Q => ∃ a xs, x = .ref a ∧ SqL K H a xs ∧ ∀ p, H p = none → Q (.ref p) (upd H p (.lst (cutV xs lo hi)))
theorem sl_list : SlR X (rSlL X.K) := by
 intro pins s σ H x v vl vu lo hi sl Q I rx hs pl pu h
 obtain ⟨a, xs, rfl, hx, q⟩ := h
 cases rx
 obtain ⟨its, r, ht, hz⟩ := I.list hx
 have hlen := r.length
 refine ⟨"list", _, slot_list_getitem.lookup, ht.isList.typeIs, ?_⟩
 refine wpAny_getItem_list_slice ht.isList hs pl pu .none (by simp) ?_ (by rw [List.size_toArray] <;> omega)
 rw [slicePick_cut, ← hlen]
 refine ⟨.ref s.heap.objs.size, _, I.laid (t' := s.toks) (o := .lst (cutV xs lo hi)) (fun b ob q => Heap.get?_push_of_some _ q) (Nat.le_refl _) ?_, rfl, q _ (I.hok.fresh (Nat.le_refl _))⟩
 exact ⟨Nat.le_trans (cutV_length xs lo hi) hz, _, 0, (r.drop (HT.sIx xs.length 0 lo)).take (HT.sIx xs.length xs.length hi - HT.sIx xs.length 0 lo), Heap.get?_push_size _ rfl⟩
def flatV : V → Bool
 | .non => true
 | .bl _ => true
 | .int _ => true
 | .str _ => true
 | _ => false
def eqV : V → V → Bool
 | .non, .non => true
 | .bl a, .bl b => a == b
 | .bl a, .int b => (if a then 1 else 0) == b
 | .int a, .bl b => a == (if b then 1 else 0)
 | .int a, .int b => a == b
 | .str a, .str b => a == b
 | _, _ => false
theorem eqAt_V {A : Around} {s : Shared} {y x : V} {u v : Value} (ry : RelV y u) (rx : RelV x v) (fy : flatV y = true) (fx : flatV x = true) : SeqAt.EqAt A s u v (eqV y x) := by
 cases y with
 | non =>
  cases ry
  cases x with
  | non => cases rx; exact SeqAt.EqAt.same _
  | bl b => cases rx; exact SeqAt.EqAt.none_bool b
  | int b => obtain ⟨t, rfl⟩ := rx; exact SeqAt.EqAt.none_int b t
  | str b => obtain ⟨t, rfl⟩ := rx; exact SeqAt.EqAt.none_str b t
  | _ => exact absurd (show false = true from fx) Bool.false_ne_true
 | bl a =>
  cases ry
  cases x with
  | non => cases rx; exact SeqAt.EqAt.bool_none a
  | bl b => cases rx; exact SeqAt.EqAt.bool_bool a b
  | int b => obtain ⟨t, rfl⟩ := rx; exact SeqAt.EqAt.bool_int a b t
  | str b => obtain ⟨t, rfl⟩ := rx; exact SeqAt.EqAt.bool_str a b t
  | _ => exact absurd (show false = true from fx) Bool.false_ne_true
 | int a =>
  obtain ⟨t', rfl⟩ := ry
  cases x with
  | non => cases rx; exact SeqAt.EqAt.int_none a t'
  | bl b => cases rx; exact SeqAt.EqAt.int_bool a t' b
  | int b => obtain ⟨t, rfl⟩ := rx; exact SeqAt.EqAt.int_int a t' b t
  | str b => obtain ⟨t, rfl⟩ := rx; exact SeqAt.EqAt.int_str a t' b t
  | _ => exact absurd (show false = true from fx) Bool.false_ne_true
 | str a =>
  obtain ⟨t', rfl⟩ := ry
  cases x with
  | non => cases rx; exact SeqAt.EqAt.str_none a t'
  | bl b => cases rx; exact SeqAt.EqAt.str_bool a t' b
  | int b => obtain ⟨t, rfl⟩ := rx; exact SeqAt.EqAt.str_int a t' b t
  | str b => obtain ⟨t, rfl⟩ := rx; exact SeqAt.EqAt.str_str a t' b t
  | _ => exact absurd (show false = true from fx) Bool.false_ne_true
 | _ => exact absurd (show false = true from fy) Bool.false_ne_true
def eqU (x : V) (u : Value) : Bool := match u with
 | .none => eqV .non x
 | .bool b => eqV (.bl b) x
 | .int i _ => eqV (.int i) x
 | .str z _ => eqV (.str z) x
 | _ => false
theorem eqU_of {x y : V} {u : Value} (r : RelV y u) (f : flatV y = true) : eqU x u = eqV y x := by
 cases y with
 | non => cases r; rfl
 | bl b => cases r; rfl
 | int i => obtain ⟨t, rfl⟩ := r; rfl
 | str z => obtain ⟨t, rfl⟩ := r; rfl
 | _ => exact absurd (show false = true from f) Bool.false_ne_true
theorem any_eqU {x : V} : ∀ {xs : List V} {us : List Value}, Vals xs us → xs.all flatV = true → us.any (eqU x) = xs.any fun y => eqV y x
 | _, _, .nil, _ => rfl
 | y :: xs, u :: us, .cons r t, f => by
  rw [List.all_cons, Bool.and_eq_true] at f
  rw [List.any_cons, List.any_cons, eqU_of r f.1, any_eqU t f.2]
theorem mem_eqAt {A : Around} {s : Shared} {x : V} {v : Value} (rx : RelV x v) (fx : flatV x = true) : ∀ {xs : List V} {us : List Value}, Vals xs us → xs.all flatV = true → ∀ u ∈ us, SeqAt.EqAt A s u v (eqU x u)
 | _, _, .nil, _ => fun u hu => by cases hu
 | y :: xs, u :: us, .cons r t, f => fun u' hu => by
  rw [List.all_cons, Bool.and_eq_true] at f
  rcases List.mem_cons.mp hu with rfl | hu
  ·rw [eqU_of r f.1]; exact eqAt_V r rx f.1 fx
  ·exact mem_eqAt rx fx t f.2 u' hu
def inV (x : V) (xs : List V) : Bool := xs.any fun y => eqV y x
def rIn (K : PySem.W.Frag) (neg : Bool) : R2 := fun x y H Q => ∃ p xs, y = .ref p ∧ (SqL K H p xs ∨ SqT K H p xs) ∧ flatV x = true ∧ xs.all flatV = true ∧ Q (.bl (if neg then !inV x xs else inV x xs)) H
theorem op_in_seq : OpR X (compareOp .In) (rIn X.K false) := by
 intro pins s σ H x y v u Q I rx ry h
 obtain ⟨p, xs, rfl, hq, fx, fs, q⟩ := h
 cases ry
 rcases hq with hq | hq
 ·obtain ⟨its, r, pl, hz⟩ := I.list hq
  refine SeqAt.in_listAt (eqU x) pl.isList (fun w hw => mem_eqAt rx fx r fs w (by simpa using hw)) ⟨.bl _, H, I, rfl, ?_⟩
  rw [show its.toArray.any (eqU x) = its.any (eqU x) by simp, any_eqU r fs]
  exact q
 ·obtain ⟨its, r, pl, hz⟩ := I.tuple hq
  refine SeqAt.in_tupleAt (eqU x) pl (fun w hw => mem_eqAt rx fx r fs w (by simpa using hw)) ⟨.bl _, H, I, rfl, ?_⟩
  rw [show its.toArray.any (eqU x) = its.any (eqU x) by simp, any_eqU r fs]
  exact q
theorem call_len_seq : CallR X (.builtin "len") (fun xs H Q => ∃ p ys, xs = [.ref p] ∧ (SqL X.K H p ys ∨ SqT X.K H p ys) ∧ Q (.int ys.length) H) := by
 intro pins s σ H xs us Q I r h
 obtain ⟨p, ys, rfl, hq, q⟩ := h
 obtain ⟨u, rfl, rx⟩ := vals1 r
 cases rx
 have hn := line63
 rcases hq with hq | hq
 ·obtain ⟨its, r', pl, hz⟩ := I.list hq
  have hlen := r'.length
  exact Calls.call_len_list pl.isList (by simp only [List.size_toArray] <;> omega) ⟨.int ys.length, H, I.tok _, ⟨s.toks + 1, by rw [List.size_toArray, hlen]⟩, q⟩
 ·obtain ⟨its, r', pl, hz⟩ := I.tuple hq
  have hlen := r'.length
  exact len_tuple pl (by simp only [List.size_toArray] <;> omega) ⟨.int ys.length, H, I.tok _, ⟨s.toks + 1, by rw [List.size_toArray, hlen]⟩, q⟩
theorem call_tuple_of : CallR X (.type "tuple") (fun xs H Q => ∃ p ys, xs = [.ref p] ∧ ((SqL X.K H p ys ∧ ∀ l, H l = none → Q (.ref l) (upd H l (.tup ys))) ∨ (SqT X.K H p ys ∧ Q (.ref p) H))) := by
 intro pins s σ H xs us Q I r h
 obtain ⟨p, ys, rfl, h⟩ := h
 obtain ⟨u, rfl, rx⟩ := vals1 r
 cases rx
 rcases h with ⟨hq, q⟩ | ⟨hq, q⟩
 ·obtain ⟨its, r', pl, hz⟩ := I.list hq
  have hlen := r'.length
  refine call_tuple_list pl.isList (fun h' kp => ?_) (by simp only [List.size_toArray] <;> omega)
  have I1 : Inv X pins σ H { s with heap := h' } := I.kept (t' := s.toks) kp
  have I2 : Inv X pins σ (upd H h'.objs.size (.tup ys)) { s with heap := h'.push { cls := .type "tuple", data := .seq its.toArray } } :=
   I1.laid (t' := s.toks) (fun b o e => Heap.get?_push_of_some _ e) (Nat.le_refl _) (show ObjOk X.prog X.w _ _ _ (.tup ys) from ⟨hz, its, r', IsTup.new _ _⟩)
  exact ⟨.ref h'.objs.size, _, I2, rfl, q _ (I1.hok.fresh (Nat.le_refl _))⟩
 ·obtain ⟨its, r', pl, hz⟩ := I.tuple hq
  exact call_tuple_same pl ⟨.ref p, H, I, rfl, q⟩
def tyV (K : PySem.W.Frag) (T : String) (x : V) (H : Hp) : Prop := match x with
 | .str _ => T = "str"
 | .int _ => T = "int"
 | .ref p => (T = "list" ∧ ∃ xs, SqL K H p xs) ∨ (T = "tuple" ∧ ∃ o, K.lookup p = some o ∧ o.cls = .type "tuple" ∧ o.dict = none) ∨
   (T = "dict" ∧ ((∃ kvs, H p = some (.dK kvs)) ∨ ∃ kvs, H p = some (.dT kvs))) ∨ (T = "set" ∧ ∃ S n, H p = some (.set S n))
 | _ => False
theorem tyV_is {pins : List (Addr × Obj)} {σ : St} {H : Hp} {s : Shared} {T : String} {x : V} {v : Value} (I : Inv X pins σ H s) (r : RelV x v) (ty : tyV X.K T x H) :
  s.TypeIs v T ∧ ∀ a, v = .ref a → ∃ ob, s.heap.get? a = some ob ∧ ob.dict = none := by
 cases x with
 | str z =>
  obtain ⟨t, rfl⟩ := r
  cases (show T = "str" from ty)
  exact ⟨typeIs_str s z t, fun _ e => nomatch e⟩
 | int i =>
  obtain ⟨t, rfl⟩ := r
  cases (show T = "int" from ty)
  exact ⟨typeIs_int s i t, fun _ e => nomatch e⟩
 | ref p =>
  cases r
  rcases ty with ⟨rfl, xs, hq⟩ | ⟨rfl, o, hk, hc, hd⟩ | ⟨rfl, hk⟩ | ⟨rfl, S, n, hk⟩
  ·obtain ⟨its, _, pl, _⟩ := I.list hq
   refine ⟨pl.isList.typeIs, fun a e => ?_⟩
   cases e
   obtain ⟨o, n, e, c, hd, _⟩ := pl
   exact ⟨o, e, hd⟩
  ·refine ⟨⟨o, I.kIn p o hk, hc⟩, fun a e => ?_⟩
   cases e
   exact ⟨o, I.kIn _ o hk, hd⟩
  ·have z : ∃ o, s.heap.get? p = some o ∧ o.ExactDict := by
    rcases hk with ⟨kvs, hk⟩ | ⟨kvs, hk⟩
    ·obtain ⟨_, _, _, _, o, _, _, e, ex, _⟩ := I.hok p _ hk
     exact ⟨o, e, ex⟩
    ·obtain ⟨_, _, _, _, o, _, _, e, ex, _⟩ := I.hok p _ hk
     exact ⟨o, e, ex⟩
   obtain ⟨o, e, ex⟩ := z
   refine ⟨⟨o, e, ex.1⟩, fun a e2 => ?_⟩
   cases e2
   exact ⟨o, e, ex.2.1⟩
  ·obtain ⟨o, _, _, _, e, ex, _⟩ := I.hok p _ hk
   refine ⟨⟨o, e, ex.1⟩, fun a e2 => ?_⟩
   cases e2
   exact ⟨o, e, ex.2.1⟩
 | _ => exact False.elim ty
def tBM (K : PySem.W.Frag) (T : String) (r : V → List V → Hp → VK → Prop) (to : TE) (t : TA) : TE := fun σ H Q => to σ H fun x H1 => tyV K T x H1 ∧ t σ H1 fun xs H2 => r x xs H2 Q
variable {o e : Expr} {es : List Expr} {to : TE} {t : TA} {name : Str} {apos cpos : Pos} {T id : String} {r : V → List V → Hp → VK → Prop}
theorem pe_bm (pa : PlainAttrs T) (slot : Slot T name id) (hty : typeOf (.builtin id) = pure (.type "method_descriptor")) (hm : MtR X id r) (ho : PE X o to) (ha : PA X (e :: es) t)
  (hbase : attributeBase o name X.env (eval o X.env) = eval o X.env := by rfl)
  (hfew : ((backTo cpos (starEach (e :: es) X.env)).all (fun x => !x.1) && (backToKw cpos (keywordEach [] X.env)).all (fun x => x.1.isSome)
   && decide ((e :: es).length + ([] : List Keyword).length + (if ([] : List Keyword).isEmpty then 0 else 1) < 30)) = true := by rfl)
  (hline : (apos.endLine == cpos.line) = true := by rfl) (hs : starEach (e :: es) X.env = (false, eval e X.env) :: starEach es X.env := by rfl) (hplain : (backTo cpos (starEach es X.env)).any (·.1) = false := by rfl) :
  PE X (.Call (.Attribute o name apos) (e :: es) [] cpos) (tBM X.K T r to t) := by
 intro pins s σ H Q I h
 refine wpAny_Call_method_late hbase hfew hline rfl (thn (ho pins s σ H _ I h) fun v s1 ⟨x, H1, I1, r1, ty, q1⟩ => ?_)
 obtain ⟨h1, h2⟩ := tyV_is I1 r1 ty
 refine ⟨T, id, pa, slot, hty, h1, h2, ?_⟩
 have hA := ha cpos pins s1 σ H1 _ I1 q1
 rw [hs] at hA ⊢
 refine Calls.callWith_builtin (by show (false || (backTo cpos (starEach es X.env)).any (·.1)) = false; rw [hplain] <;> rfl) (Calls.evalArgs_plain ?_)
 exact thn hA fun us s2 ⟨vs, H2, I2, r2, q2⟩ => hm pins s2 σ H2 x vs v us Q I2 r1 r2 q2
end
end L2
namespace L2
open PySem PySem.Spec PyProof.Rows
def MtM (X : Cx) (id : String) (r : V → List V → Hp → VK → Prop) : Prop :=
 ∀ (pins : List (Addr × Obj)) (s : Shared) (σ : St) (H : Hp) (x : V) (xs : List V) (v : Value) (us : List Value) (Q : VK), Inv X pins σ H s → RelV x v → Vals xs us → r x xs H Q →
  wpAny (model X.prog X.w) X.A (call (.builtin id) (v :: us)) (EP X pins σ Q) X.xe s
theorem Vals.one : ∀ {x : V} {us : List Value}, Vals [x] us → ∃ u, us = [u] ∧ RelV x u
 | _, _, .cons r .nil => ⟨_, rfl, r⟩
theorem Vals.two : ∀ {x y : V} {us : List Value}, Vals [x, y] us → ∃ u v, us = [u, v] ∧ RelV x u ∧ RelV y v
 | _, _, _, .cons r (.cons q .nil) => ⟨_, _, rfl, r, q⟩
theorem Vals.dropLast {xs : List V} {us : List Value} (h : Vals xs us) : Vals xs.dropLast us.dropLast := by
 induction h with
 | nil => exact .nil
 | cons r t ih =>
  cases t with
  | nil => exact .nil
  | cons q t' => exact .cons r ih
theorem Vals.reverse {xs : List V} {us : List Value} (h : Vals xs us) : Vals xs.reverse us.reverse := by
 induction h with
 | nil => exact .nil
 | cons r t ih => rw [List.reverse_cons, List.reverse_cons]; exact Vals.append ih (.cons r .nil)
section
variable {X : Cx} {pins : List (Addr × Obj)} {σ : St} {H : Hp} {s : Shared} {l b : Addr} {xs ys zs : List V}
theorem Inv.lset {its its' : List Value} {n : Nat} {f : Array Value → Array Value} {t' : Nat} (I : Inv X pins σ H s) (hH : H l = some (.lst xs))
  (e : s.heap.get? l = some { cls := .type "list", data := .seq its.toArray n }) (hf : f its.toArray = its'.toArray) (hv : Vals ys its') (hz : ys.length ≤ sizeLine) :
  Inv X pins σ (upd H l (.lst ys)) { s with heap := s.heap.update l (Obj.mapSeq f), toks := t' } := by
 have q := PySem.IsL.update e f
 rw [hf] at q
 refine I.write (x := l) (e := l) (by rw [hH]; exact trivial) (.inl rfl) (fun b' u hb hu => (Heap.get?_update_other s.heap (Obj.mapSeq f) (Ne.symm hb)).trans hu) ⟨_, q⟩ ?_
 exact ⟨hz, its', _, hv, q⟩
theorem Inv.lnew {its : List Value} {t' : Nat} (I : Inv X pins σ H s) (hv : Vals ys its) (hz : ys.length ≤ sizeLine) :
  Inv X pins σ (upd H s.heap.objs.size (.lst ys)) { s with heap := s.heap.push { cls := .type "list", data := .seq its.toArray }, toks := t' } :=
 I.laid (fun _ _ q => Heap.get?_push_of_some _ q) (Nat.le_refl _) ⟨hz, its, 0, hv, Heap.get?_push_size _ rfl⟩
theorem Inv.fresh (I : Inv X pins σ H s) : H s.heap.objs.size = none := I.hok.fresh (Nat.le_refl _)
theorem Inv.lstM (I : Inv X pins σ H s) (hH : H l = some (.lst xs)) : xs.length ≤ sizeLine ∧ ∃ (its : List Value) (n : Nat), Vals xs its ∧ xs.length = its.length ∧ s.heap.get? l = some { cls := .type "list", data := .seq its.toArray n } := by
 obtain ⟨z, its, n, r, e⟩ := I.hok l _ hH
 exact ⟨z, its, n, r, r.length, e⟩
theorem notLongL {n : Nat} (h : n ≤ sizeLine) : Builtin.List.listTooLong n = false := by
 unfold Builtin.List.listTooLong
 exact decide_eq_false (by omega)
end
section
variable {X : Cx}
def rAppend : V → List V → Hp → VK → Prop := fun x vs H Q => ∃ l xs y, x = .ref l ∧ vs = [y] ∧ H l = some (.lst xs) ∧ xs.length < sizeLine ∧ Q .non (upd H l (.lst (xs ++ [y])))
theorem mt_append : MtM X "list.append" rAppend := by
 intro pins s σ H x vs v us Q I rx rv h
 obtain ⟨l, xs, y, rfl, rfl, hH, hz, q⟩ := h
 cases rx
 obtain ⟨u, rfl, ru⟩ := rv.one
 obtain ⟨z, its, n, r, hl, e⟩ := I.lstM hH
 refine call_meets F.slot_list_append ⟨_, e, rfl⟩ F.entry_list_append (F.args_list_append_2 _ _) (PySem.list_append l its.toArray n u (by rw [List.size_toArray]; omega)) ⟨e, ?_⟩
 refine ⟨.non, _, I.lset (its' := its ++ [u]) hH e (by simp) (r.append (.cons ru .nil)) ?_, rfl, q⟩
 rw [List.length_append, List.length_singleton]
 omega
def rExtend : V → List V → Hp → VK → Prop := fun x vs H Q => ∃ l b xs zs, x = .ref l ∧ vs = [.ref b] ∧ H l = some (.lst xs) ∧ H b = some (.lst zs) ∧ xs.length + zs.length ≤ sizeLine ∧ Q .non (upd H l (.lst (xs ++ zs)))
theorem mt_extend : MtM X "list.extend" rExtend := by
 intro pins s σ H x vs v us Q I rx rv h
 obtain ⟨l, b, xs, zs, rfl, rfl, hH, hB, hz, q⟩ := h
 cases rx
 obtain ⟨u, rfl, ru⟩ := rv.one
 cases ru
 obtain ⟨z, its, n, r, hl, e⟩ := I.lstM hH
 obtain ⟨z2, its2, n2, r2, hl2, e2⟩ := I.lstM hB
 have hsz : its.toArray.size + its2.toArray.size ≤ sizeLine := by rw [List.size_toArray, List.size_toArray]; omega
 have hlong : ¬ (!its.toArray.isEmpty && Builtin.List.listTooLong (its.toArray.size + its2.toArray.size)) = true := by
  rw [notLongL hsz, Bool.and_false]
  exact Bool.false_ne_true
 refine call_meets F.slot_list_extend ⟨_, e, rfl⟩ F.entry_list_extend (F.args_list_extend_2 _ _)
  (AutoSeq1.list_extend_list_list_0 l its.toArray n b its2.toArray n2 hlong (by rw [List.size_toArray]; omega) (by omega)) ⟨e, e2, ?_⟩
 refine ⟨.non, _, I.lset (its' := its ++ its2) hH e (by simp) (r.append r2) ?_, rfl, q⟩
 rw [List.length_append]
 omega
def rCat : R2 := fun x y H Q => ∃ l b xs zs, x = .ref l ∧ y = .ref b ∧ H l = some (.lst xs) ∧ H b = some (.lst zs) ∧ xs.length + zs.length ≤ sizeLine ∧ ∀ p, H p = none → Q (.ref p) (upd H p (.lst (xs ++ zs)))
theorem op_cat : OpR X (binaryOp .Add) rCat := by
 intro pins s σ H x y v u Q I rx ry h
 obtain ⟨l, b, xs, zs, rfl, rfl, hH, hB, hz, q⟩ := h
 cases rx
 cases ry
 obtain ⟨z, its, n, r, hl, e⟩ := I.lstM hH
 obtain ⟨z2, its2, n2, r2, hl2, e2⟩ := I.lstM hB
 refine PySem.P.add_list e e2 ?_ (by rw [List.size_toArray, List.size_toArray]; omega)
 have ea : its.toArray ++ its2.toArray = (its ++ its2).toArray := by simp
 rw [ea]
 exact ⟨.ref _, _, I.lnew (t' := s.toks) (r.append r2) (by rw [List.length_append]; omega), rfl, q _ I.fresh⟩
end
section
variable {prog : Program} {w : World} {A : Around} {E : Value → Shared → Prop} {s : Shared}
end
section
variable {X : Cx}
end
end L2
namespace Att
open PySem PySem.W PySem.Calls PyProof.Rows
theorem ints_of_wellAll {P : Params} {h : Heap} : ∀ (ns : List Int) (vs : List Value), WellAll P h vs (ns.map WData.int) → IntsAre vs ns := by
 intro ns
 induction ns with
 | nil =>
  intro vs w
  rw [List.map_nil] at w
  cases w
  exact .nil
 | cons n ns ih =>
  intro vs w
  rw [List.map_cons] at w
  cases w with
  | cons a b =>
   cases a
   exact .cons _ _ (ih _ b)
theorem script_of {l : OpenLaw} {n : Nat} (hn : l.most = some n) {P : Params} {h : Heap} {args : List WData} {vals : List Value}
    (hpre : l.row.toRowW.claim.pre args = true) (hwl : WellAll P h vals args) :
    ∃ a vs ns, vals = [Value.ref a] ∧ args = [WData.list (ns.map WData.int)] ∧ h.get? a = some { cls := .type "list", data := .seq vs.toArray } ∧ IntsAre vs ns ∧ ns.length ≤ n := by
  have hsh : WShape.hasAll [] args [.list .int] = true := (pre_splitW hpre).1
  have hc : l.pre.holds [] { args := args } = true := (pre_splitW hpre).2
  obtain ⟨d, r, rfl, h1, h2⟩ := hasAllW_cons hsh
  obtain rfl := hasAllW_nil h2
  obtain ⟨xs, rfl, h3⟩ := hasW_list h1
  obtain ⟨ns, rfl⟩ := items_int h3
  have hlen : ns.length ≤ n := by
    unfold OpenLaw.pre at hc
    have h4 : (WTm.not (.lt (.lit (.int (n : Int))) (.len (.arg 0)))).holds [] { args := [.list (ns.map .int)] } = true := by
      have h4 := (holds_andW hc).1
      rw [hn] at h4
      exact h4
    have h5 := condW_of h4 (w_not (w_lt w_lit (w_len_list (w_arg rfl))))
    rw [List.length_map] at h5
    refine Nat.le_of_not_lt fun q => ?_
    have q' : (n : Int) < ((ns.length : Nat) : Int) := by omega
    first
      | (rw [decide_eq_true q'] at h5; exact absurd h5 (by decide))
      | (simp at h5; omega)
  cases hwl with
  | cons w1 w2 =>
    cases w2
    cases w1 with
    | list ho hall => exact ⟨_, _, ns, rfl, rfl, ho, ints_of_wellAll ns _ hall, hlen⟩
theorem post_true (l : OpenLaw) (args : List WData) : l.row.toRowW.claim.post args (.bool true) args = true :=
 postW_of (r := l.row.toRowW) (X := (true == true))
  (show WShape.has [] (.bool true) .bool = true by first | rfl | decide | simp [WShape.has, WShape.arms, WShape.armsAll])
  (show (WTm.eq .res (.lit (.bool true))).value [] { args := args, res := some (.bool true), after := args } = some (.bool (true == true)) from w_eq_bool (w_res rfl) w_lit) rfl
theorem attach_call {l : OpenLaw} {n : Nat} {q : Program} {loose : List Str} {XP : (Str → Option Value) → Heap → Prop} {YP : World → Heap → Prop} {d : DefRec}
  (hn : l.most = some n) (hdf : d.params.defaults = [])
  (call : ∀ (w : World) (s₀ s₁ : Shared) (mg mb : Str → Option Value) (fa : Addr) (o : Obj) (pm cd doc : Value) (a : Addr) (vs : List Value) (ns : List Int),
   Ground q loose [] XP w s₀ mg mb s₁.heap → YP w s₁.heap →
   s₁.heap.get? fa = some o → o.data = .func (docDef d.name d.params d.body d.scope pm cd doc) → s₁.heap.CodeRec cd d.name → mg d.name = some (.ref fa) →
   s₁.heap.get? a = some { cls := .type "list", data := .seq vs.toArray } → IntsAre vs ns → ns.length ≤ n → s₁.gens = #[] →
   codeAny (model l.prog w) callerA (.call (.ref fa) ⟨[.ref a], []⟩) (fun r s' => r = .ok (.ret (.bool true)) ∧ OldK s₁.heap s'.heap ∧ s'.os = s₁.os ∧ AllBare s'.gens) s₁) :
  WalkO q loose XP YP l.row.toRowW d [] (fun f vs => PySem.call f vs) := by
 intro w s₀ s₁ mg mb G Y fa o pm cd doc dV kV ho hd hcd hD hmg hg args vals as hpre hlay hrd hwl hlo
 obtain rfl : dV = .none := Dflts.none hD hdf
 obtain rfl : kV = .none := Dflts.noKw hD
 obtain ⟨a, vs, ns, rfl, rfl, hobj, hints, hlen⟩ := script_of hn hpre hwl
 refine enter_call (codeAny_mono (call w s₀ s₁ mg mb fa o pm cd doc a vs ns G Y ho (fd_plain hd) hcd hmg hobj hints hlen hg) fun r s' hq => ?_)
 obtain ⟨rfl, h2, h3, h4⟩ := hq
 exact ⟨.inl ⟨.bool true, .bool true, [], rfl, fun _ => rfl, .bool true, post_true l _, fun _ => ⟨List.Pairwise.nil, fun _ hm => (nomatch hm)⟩⟩, h2, h3, h4⟩
section
variable {prog : Program} {w : World} {A : Around} {E : Value → Shared → Prop} {s : Shared} {K : Frag}
end
end Att
namespace L2
open PySem PySem.Spec PyProof.Rows
theorem vals_ints : ∀ {vs : List Value} {ns : List Int}, IntsAre vs ns → Vals (ns.map V.int) vs
 | _, _, .nil => .nil
 | _, _, .cons n t h => .cons ⟨t, rfl⟩ (vals_ints h)
def Only (H : Hp) : Prop := ∀ b, H b = none ∨ ∃ o xs, H b = some (.frz o (.lst xs))
theorem law_call {P : Program} {w : World} {K : PySem.W.Frag} {mg mb : Str → Option Value} {CX : CXT} {k : Nat} {fa a : Addr} {fd : FuncData} {x : Str} {sp : Sp} {s₁ : Shared} {vs : List Value} {ns : List Int}
  (KX : K.In s₁.heap) (hns : s₁.heap.Ns mainGlobals mg) (hb : s₁.heap.Ns builtinsNs mb) (hbb : ∀ x : Str, x ≠ "__name__" → mb x = bootBuiltins x) (hlim : s₁.heap.NoLimit) (hg : s₁.gens = #[])
  (ha : s₁.heap.get? a = some { cls := .type "list", data := .seq vs.toArray }) (hi : IntsAre vs ns) (hl : ns.length ≤ sizeLine) (hr : Room k callerA)
  (F : ∀ base : Heap, K.In base → base.Ns mainGlobals mg → FnOk P w K mg base CX k fa fd [x] sp) (hbind : ∀ (s : Shared) (u : Value), BindsTo s fd ⟨[u], []⟩ [(x, u)])
  (hsp : ∀ H : Hp, Only H → SqL K H a (ns.map V.int) → sp [.ref a] H (fun v _ => v = .bl true) fun _ _ _ => False)
  (hCX : ∀ H e s', CX [] H s₁ (fun _ _ _ => False) e s' → False) :
  codeAny (model P w) callerA (.call (.ref fa) ⟨[.ref a], []⟩) (fun r s' => r = .ok (.ret (.bool true)) ∧ OldK s₁.heap s'.heap ∧ s'.os = s₁.os ∧ AllBare s'.gens) s₁ := by
 have rv := vals_ints hi
 have lenV := hi.length
 -- from an abstract heap in which nothing but the script may be tracked
 have core : ∀ H : Hp, Only H → SqL K H a (ns.map V.int) → HOk P w H s₁.heap → (∀ b, H b ≠ none → b = a) → (H a ≠ none → K.lookup a = none) →
   codeAny (model P w) callerA (.call (.ref fa) ⟨[.ref a], []⟩) (fun r s' => r = .ok (.ret (.bool true)) ∧ OldK s₁.heap s'.heap ∧ s'.os = s₁.os ∧ AllBare s'.gens) s₁ := by
  intro H hO hS hok hA hK
  have base_of : ∀ {b : Addr} {o : Obj}, s₁.heap.get? b = some o → H b = none → (hidT s₁.heap H).get? b = some o := fun e n => hidT_get e n
  have noA : ∀ {b : Addr} {o : Obj} {es : Array DictEntry} {ep : Nat}, s₁.heap.get? b = some o → o.data = .dict es ep → H b = none := fun {b o es ep} e d => by
   cases q : H b with
   | none => rfl
   | some u =>
    have e' : b = a := hA b (by rw [q]; simp)
    subst e'
    rw [ha] at e; cases e
    have d' : Data.seq vs.toArray _ = Data.dict es ep := d
    cases d'
  have nsK : ∀ {b : Addr} {m : Str → Option Value}, s₁.heap.Ns b m → (hidT s₁.heap H).Ns b m := fun {b m} ⟨o, es, ep, e, d, r⟩ => ⟨o, es, ep, base_of e (noA e d), d, r⟩
  have hKb : K.In (hidT s₁.heap H) := fun b o e => base_of (KX b o e) (by
   cases q : H b with
   | none => rfl
   | some u =>
    have e' : b = a := hA b (by rw [q]; simp)
    subst e'
    rw [hK (by rw [q]; simp)] at e; cases e)
  have hM : Mod K mg (hidT s₁.heap H) := ⟨hKb, nsK hns, ⟨mb, nsK hb, hbb⟩, let ⟨mc, h1, h2⟩ := hlim; ⟨mc, nsK h1, h2⟩⟩
  have e0 : Env0 P w K mg (hidT s₁.heap H) callerA [] s₁ H := ⟨rfl, hM, fun b o e => of_hidT e, Nat.le_of_eq (hidT_size _ _), trivial, fun b hb => absurd (show b ∈ ([] : List Addr) from hb) (by simp), hok, .of_eq hg⟩
  refine codeAny_mono ((F _ hKb (nsK hns)).run callerA [] s₁ H ⟨[.ref a], []⟩ [.ref a] [.ref a] _ _ hr e0 (hbind s₁ (.ref a)) (.cons rfl .nil) (hsp H hO hS)) fun r s' h => ?_
  cases r with
  | error e => exact (hCX H e s' h).elim
  | ok fl =>
   cases fl with
   | next => exact False.elim h
   | brk => exact False.elim h
   | cont => exact False.elim h
   | ret u =>
    obtain ⟨v, H', os, bare, un, hok', r', q⟩ := h
    have q' : v = .bl true := q
    subst q'
    obtain rfl : u = Value.bool true := r'
    refine ⟨rfl, OldK.of_keep fun b o e => ?_, os, bare⟩
    cases q : H b with
    | none => exact un.keep b o e q (by intro z; exact absurd (show b ∈ ([] : List Addr) from z) (by simp)) (by simp)
    | some u =>
     rcases hO b with z | ⟨ob, xs, z⟩
     ·rw [q] at z; cases z
     ·have z2 := un.frzs b ob _ z
      obtain ⟨e1, _⟩ := hok b _ z
      obtain ⟨e2, _⟩ := hok' b _ z2
      rw [e] at e1; cases e1
      exact e2
 cases hk : K.lookup a with
 | some o =>
  -- the script is one of the module's own objects
  have e := KX a o hk
  rw [ha] at e
  cases e
  refine core (fun _ => none) (fun _ => .inl rfl) (.inr ⟨_, vs.toArray, _, hk, rfl, rfl, rfl, by rw [List.size_toArray, lenV]; exact hl, by simpa using rv⟩) (fun b u z => by have z' : (none : Option HO) = some u := z; cases z') (fun b z => absurd rfl z) fun z => absurd rfl z
 | none =>
  refine core (fun b => if b = a then some (.frz { cls := .type "list", data := .seq vs.toArray } (.lst (ns.map V.int))) else none) (fun b => ?_) (.inl (.inr ⟨{ cls := .type "list", data := .seq vs.toArray }, if_pos rfl⟩)) (fun b u z => ?_) (fun b z => ?_) fun _ => hk
  ·by_cases hb : b = a
   ·exact .inr ⟨_, _, if_pos hb⟩
   ·exact .inl (if_neg hb)
  ·by_cases hb : b = a
   ·have z' := (if_pos hb).symm.trans z
    cases z'
    subst hb
    exact ⟨ha, by rw [List.length_map]; exact hl, vs, _, rv, ha⟩
   ·have z' := (if_neg hb).symm.trans z
    cases z'
  ·by_cases hb : b = a
   ·exact hb
   ·exact absurd (if_neg hb) z
end L2
namespace L2
open PySem PySem.Spec PyProof.Rows
theorem walk_of {l : PySem.W.OpenLaw} {n k : Nat} {q : Program} {loose : List Str} {XP : (Str → Option Value) → Heap → Prop} {YP : World → Heap → Prop} {d : DefRec} {K : Params → PySem.W.Frag} {CX : World → CXT} {sp : World → Sp} {x : Str}
  (hn : l.most = some n) (hn2 : n ≤ sizeLine) (hdf : d.params.defaults = []) (hr : Room k callerA)
  (hY : ∀ (w : World) (h : Heap), YP w h → (K w.params).In h)
  (F : ∀ (w : World) (mg : Str → Option Value) (fa : Addr) (h : Heap), (K w.params).In h → h.Ns mainGlobals mg → mg d.name = some (.ref fa) →
   ∃ fd : FuncData, (∀ (s : Shared) (u : Value), BindsTo s fd ⟨[u], []⟩ [(x, u)]) ∧
    ∀ base : Heap, (K w.params).In base → base.Ns mainGlobals mg → FnOk l.prog w (K w.params) mg base (CX w) k fa fd [x] (sp w))
  (hsp : ∀ (w : World) (H : Hp) (a : Addr) (ns : List Int), ns.length ≤ n → Only H → SqL (K w.params) H a (ns.map V.int) → sp w [.ref a] H (fun v _ => v = .bl true) fun _ _ _ => False)
  (hCX : ∀ (w : World) (H : Hp) (s : Shared) (e : Value) (s' : Shared), CX w [] H s (fun _ _ _ => False) e s' → False) :
  PySem.W.WalkO q loose XP YP l.row.toRowW d [] (fun f vs => PySem.call f vs) := by
 refine Att.attach_call hn hdf fun w s₀ s₁ mg mb fa o pm cd doc a vs ns G Y ho hd hcd hmg hobj hints hlen hg => ?_
 have KX := hY w _ Y
 obtain ⟨fd, hb, hF⟩ := F w mg fa _ KX G.T.g hmg
 exact law_call KX G.T.g G.T.b G.T.builtins G.T.nolimit hg hobj hints (Nat.le_trans hlen hn2) hr hF hb (fun H hO hS => hsp w H a ns hlen hO hS) fun H e s' => hCX w H s₁ e s'
theorem walk_ofK {l : PySem.W.OpenLaw} {n k : Nat} {q : Program} {loose : List Str} {XP : (Str → Option Value) → Heap → Prop} {YP : World → Heap → Prop} {d : DefRec} {K : Params → PySem.W.Frag} {CX : CXT} {sp : PySem.W.Frag → Sp} {x : Str}
  (hn : l.most = some n) (hn2 : n ≤ sizeLine) (hdf : d.params.defaults = []) (hr : Room k callerA)
  (hY : ∀ (w : World) (h : Heap), YP w h → (K w.params).In h)
  (F : ∀ (w : World) (mg : Str → Option Value) (fa : Addr) (h : Heap), (K w.params).In h → h.Ns mainGlobals mg → mg d.name = some (.ref fa) →
   ∃ fd : FuncData, (∀ (s : Shared) (u : Value), BindsTo s fd ⟨[u], []⟩ [(x, u)]) ∧
    ∀ base : Heap, (K w.params).In base → base.Ns mainGlobals mg → FnOk l.prog w (K w.params) mg base CX k fa fd [x] (sp (K w.params)))
  (hsp : ∀ (K : PySem.W.Frag) (H : Hp) (a : Addr) (ns : List Int), ns.length ≤ n → Only H → SqL K H a (ns.map V.int) → sp K [.ref a] H (fun v _ => v = .bl true) fun _ _ _ => False)
  (hCX : ∀ (H : Hp) (s : Shared) (e : Value) (s' : Shared), CX [] H s (fun _ _ _ => False) e s' → False) :
  PySem.W.WalkO q loose XP YP l.row.toRowW d [] (fun f vs => PySem.call f vs) :=
 walk_of (K := K) (CX := fun _ => CX) (sp := fun w => sp (K w.params)) hn hn2 hdf hr hY F (fun w H a ns h1 h2 h3 => hsp (K w.params) H a ns h1 h2 h3) fun _ H s e s' => hCX H s e s'
end L2
namespace L2
open PySem PySem.Spec PyProof.Rows
def defArgs (s : Stmt) : Arguments := match s with
 | .FunctionDef _ a _ _ _ _ _ _ _ _ => a
 | _ => { posonlyargs := [], args := [], vararg := none, kwonlyargs := [], kw_defaults := [], kwarg := none, defaults := [] }
def defBody (s : Stmt) : List Stmt := match s with
 | .FunctionDef _ _ b _ _ _ _ _ _ _ => b
 | _ => []
def defScope (s : Stmt) : Scope := match s with
 | .FunctionDef _ _ _ _ _ _ sc _ _ _ => sc
 | _ => { kind := .function, names := [], isGenerator := false, isCoroutine := false }
abbrev CX0 : CXT := fun _ _ _ _ _ _ => False
abbrev E0 : XK := fun _ _ _ => False
theorem pass0 {X : Cx} : Passes CX0 X E0 := fun _ _ _ _ _ _ _ h => h.elim
structure Fun (K : PySem.W.Frag) (x qual : Str) (st : Stmt) (f : Addr) (fd : FuncData) : Prop where
 ex : ∃ (oc : Value) (od : Option Addr) (kV doc pm : Value) (an : Option Addr) (cdv ct : Value) (osl : Array (Option Value)),
  fd = PySem.W.fnOf x qual (defArgs st) (defBody st) (defScope st) .none kV doc pm an cdv ct ∧ K.lookup f = some ⟨oc, od, .func fd, osl⟩ ∧ PySem.W.codeIn K cdv qual = true
 kp : PySem.W.keepIn K (.ref f) = true
section
variable {P : Program} {w : World} {K : PySem.W.Frag} {mg : Str → Option Value} {base : Heap}
theorem Fun.ok {x qual : Str} {st : Stmt} {f : Addr} {fd : FuncData} {N ps : List Str} {k : Nat} {sp : Sp} (F : Fun K x qual st f fd) (S : FnScope N ps (defScope st)) (len : ∀ vs H Q E, sp vs H Q E → vs.length = ps.length)
  (hbody : ∀ (cdv : Value) (A : Around) (outer : List Env) (s : Shared) (H : Hp) (vs : List V) (Q : VK) (E : XK), Room k (A.deeper (envOfC qual (defScope st) s.heap.objs.size f cdv)) → sp vs H Q E →
   ∃ t, PSs (cxOf CX0 P w K mg base N qual (defScope st) f cdv A outer s H E).nox (defBody st) t ∧ t { nx := fun _ H' => Q .non H', rt := Q } (start N vs) H) : FnOk P w K mg base CX0 (k + 1) f fd ps sp := by
 obtain ⟨oc, od, kV, doc, pm, an, cdv, ct, osl, rfl, lk, hcd⟩ := F.ex
 refine fn_of lk hcd S len fun A outer s H vs Q E hr hsp => ?_
 obtain ⟨t, h, q⟩ := hbody cdv A outer s H vs Q E hr hsp
 exact ⟨t, h.nox, q⟩
theorem Fun.binds {x qual : Str} {st : Stmt} {f : Addr} {fd : FuncData} {ps : List Str} (F : Fun K x qual st f fd)
  (h : ∀ (kV doc pm : Value) (an : Option Addr) (cdv ct : Value) (us : List Value), us.length = ps.length → bindArgs (PySem.W.fnOf x qual (defArgs st) (defBody st) (defScope st) .none kV doc pm an cdv ct) ⟨us, []⟩ = pure (ps.zip us)) : Binds K fd ps [] := by
 obtain ⟨oc, od, kV, doc, pm, an, cdv, ct, osl, rfl, lk, hcd⟩ := F.ex
 exact .all (h kV doc pm an cdv ct)
theorem fun_mk {x qual : Str} {st : Stmt} {f : Addr} {oc : Value} {od an : Option Addr} {osl : Array (Option Value)} {kV doc pm cdv ct : Value} (l : K.lookup f = some ⟨oc, od, .func (PySem.W.fnOf x qual (defArgs st) (defBody st) (defScope st) .none kV doc pm an cdv ct), osl⟩)
  (c : PySem.W.codeIn K cdv qual = true) (k : PySem.W.keepIn K (.ref f) = true) : Fun K x qual st f (PySem.W.fnOf x qual (defArgs st) (defBody st) (defScope st) .none kV doc pm an cdv ct) := ⟨⟨oc, od, kV, doc, pm, an, cdv, ct, osl, rfl, l, c⟩, k⟩
end
section
variable {X : Cx}
end
def Same (H H' : Hp) : Prop := ∀ b o, H b = some o → H' b = some o
theorem Same.refl (H : Hp) : Same H H := fun _ _ h => h
theorem Same.trans {H H1 H2 : Hp} (a : Same H H1) (b : Same H1 H2) : Same H H2 := fun c o h => b c o (a c o h)
theorem Same.free {H H' : Hp} (e : Same H H') {l : Addr} (h : H' l = Option.none) : H l = Option.none := by
 cases q : H l with
 | none => rfl
 | some o =>
  rw [e l o q] at h
  cases h
theorem Same.seq {K : PySem.W.Frag} {H H' : Hp} {a : Addr} {xs : List V} (e : Same H H') (h : SqL K H a xs) : SqL K H' a xs := by
 rcases h with (h | ⟨o, h⟩) | h
 ·exact .inl (.inl (e _ _ h))
 ·exact .inl (.inr ⟨o, e _ _ h⟩)
 ·exact .inr h
end L2

end

section
namespace L2
open PySem PySem.Spec PyProof.Rows
def clo (cs : List (Str × Addr)) : List (Str × NameKind) → List (Str × Addr) → List (Str × Addr)
  | [], acc => acc
  | (n, k) :: r, acc => if k == .free then (match cs.lookup n with | some a => clo cs r ((n, a) :: acc) | none => clo cs r acc) else clo cs r acc
theorem closure_eq {env : Env} : ∀ (names : List (Str × NameKind)) (acc : List (Str × Addr)), (∀ y ∈ names, y.2 = .free → ∃ c, env.cells.lookup y.1 = some c) →
    (forIn names acc (fun (p : Str × NameKind) (cs : List (Str × Addr)) => do
      if (p.2 == NameKind.free) = true then do
        let a ← cellOf env p.1
        pure (ForInStep.yield ((p.1, a) :: cs))
      else pure (ForInStep.yield cs)) : Sem (List (Str × Addr))) = pure (clo env.cells names acc)
  | [], acc, _ => rfl
  | (n, k) :: r, acc, h => by
    rw [List.forIn_cons]
    by_cases hk : (k == NameKind.free) = true
    · obtain ⟨c, hc⟩ := h (n, k) List.mem_cons_self (by simpa using hk)
      have hc' : env.cells.lookup n = some c := hc
      simp only [hk, if_true, cellOf, hc', clo]
      exact closure_eq r _ fun y hy => h y (List.mem_cons_of_mem _ hy)
    · have hk' : (k == NameKind.free) = false := by simpa using hk
      simp only [hk', Bool.false_eq_true, if_false, clo]
      exact closure_eq r _ fun y hy => h y (List.mem_cons_of_mem _ hy)
theorem closureFor_eq {env : Env} {scope : Scope} (h : ∀ y ∈ scope.names, y.2 = .free → ∃ c, env.cells.lookup y.1 = some c) : closureFor scope env = pure (clo env.cells scope.names []) := by
 have q := closure_eq (env := env) scope.names [] h
 unfold closureFor
 simp only []
 have e : (forIn scope.names ([] : List (Str × Addr)) (fun (p : Str × NameKind) (cs : List (Str × Addr)) => do
   if (p.2 == NameKind.free) = true then do
    let a ← cellOf env p.1
    pure (ForInStep.yield ((p.1, a) :: cs))
   else pure (ForInStep.yield cs)) : Sem (List (Str × Addr))) >>= (fun cs => pure cs) = pure (clo env.cells scope.names []) := by rw [q]; rfl
 exact e
end L2

end

section
namespace L2
open PySem PySem.Spec PyProof.Rows
theorem clo_look {cs : List (Str × Addr)} {x : Str} {c : Addr} : ∀ (names : List (Str × NameKind)) (acc : List (Str × Addr)), (clo cs names acc).lookup x = some c → cs.lookup x = some c ∨ acc.lookup x = some c
  | [], _, h => .inr h
  | (n, k) :: r, acc, h => by
    unfold clo at h
    split at h
    · cases hc : cs.lookup n with
      | none => rw [hc] at h; exact clo_look r acc h
      | some a =>
        rw [hc] at h
        rcases clo_look r _ h with q | q
        · exact .inl q
        · rw [List.lookup_cons] at q
          cases hx : x == n with
          | true => rw [hx] at q; rw [beq_iff_eq.mp hx, hc]; exact .inl q
          | false => rw [hx] at q; exact .inr q
    · exact clo_look r acc h
theorem clo_keep {cs : List (Str × Addr)} {x : Str} {c : Addr} (hc : cs.lookup x = some c) : ∀ (names : List (Str × NameKind)) (acc : List (Str × Addr)), acc.lookup x = some c → (clo cs names acc).lookup x = some c
  | [], _, h => h
  | (n, k) :: r, acc, h => by
    unfold clo
    split
    · cases hn : cs.lookup n with
      | none => exact clo_keep hc r acc h
      | some a =>
        refine clo_keep hc r _ ?_
        rw [List.lookup_cons]
        cases hx : x == n with
        | true => rw [beq_iff_eq.mp hx, hn] at hc; exact hc
        | false => exact h
    · exact clo_keep hc r acc h
theorem clo_has {cs : List (Str × Addr)} {x : Str} {c : Addr} (hc : cs.lookup x = some c) : ∀ (names : List (Str × NameKind)) (acc : List (Str × Addr)), (x, NameKind.free) ∈ names → (clo cs names acc).lookup x = some c
  | [], _, h => nomatch h
  | (n, k) :: r, acc, h => by
    unfold clo
    rcases List.mem_cons.mp h with e | h
    · cases e
      simp only [beq_self_eq_true, if_true, hc]
      exact clo_keep hc r _ (by simp [List.lookup_cons])
    · split
      · cases hn : cs.lookup n with
        | none => exact clo_has hc r acc h
        | some a => exact clo_has hc r _ h
      · exact clo_has hc r acc h
theorem from_look {x : Str} {c : Addr} : ∀ (names : List (Str × NameKind)) (n : Nat) (acc : List (Str × Addr)), (cellsFrom n names acc).lookup x = some c → n ≤ c ∨ acc.lookup x = some c
  | [], _, _, h => .inr h
  | (y, k) :: r, n, acc, h => by
    unfold cellsFrom at h
    split at h
    · rcases from_look r (n + 1) _ h with q | q
      · exact .inl (by omega)
      · rw [List.lookup_cons] at q
        cases hx : x == y with
        | true => rw [hx] at q; cases q; exact .inl (Nat.le_refl _)
        | false => rw [hx] at q; exact .inr q
    · exact from_look r n acc h
theorem from_own {x : Str} {c : Addr} {lo : Nat} : ∀ (names : List (Str × NameKind)) (n : Nat) (acc : List (Str × Addr)), lo ≤ n → ((x, NameKind.cell) ∈ names ∨ ∀ c, acc.lookup x = some c → lo ≤ c) → (cellsFrom n names acc).lookup x = some c → lo ≤ c
  | [], _, _, _, hm, h => hm.elim (fun z => nomatch z) fun z => z c h
  | (y, k) :: r, n, acc, hl, hm, h => by
    unfold cellsFrom at h
    split at h
    · rename_i hk
      refine from_own r (n + 1) _ (by omega) ?_ h
      by_cases hx : x = y
      · refine .inr fun c' q => ?_
        rw [List.lookup_cons, hx, beq_self_eq_true] at q
        cases q; exact hl
      · rcases hm with hm | hm
        · rcases List.mem_cons.mp hm with e | hm
          · cases e; exact absurd rfl hx
          · exact .inl hm
        · refine .inr fun c' q => hm c' ?_
          rw [List.lookup_cons, beq_eq_false_iff_ne.mpr hx] at q
          exact q
    · rename_i hk
      refine from_own r n acc hl ?_ h
      rcases hm with hm | hm
      · rcases List.mem_cons.mp hm with e | hm
        · cases e; exact absurd rfl hk
        · exact .inl hm
      · exact .inr hm
theorem from_keep {x : Str} {c : Addr} : ∀ (names : List (Str × NameKind)) (n : Nat) (acc : List (Str × Addr)), (x, NameKind.cell) ∉ names → acc.lookup x = some c → (cellsFrom n names acc).lookup x = some c
  | [], _, _, _, h => h
  | (y, k) :: r, n, acc, hm, h => by
    have hm' : (x, NameKind.cell) ∉ r := fun z => hm (List.mem_cons_of_mem _ z)
    unfold cellsFrom
    split
    · rename_i hk
      refine from_keep r (n + 1) _ hm' ?_
      rw [List.lookup_cons]
      cases hx : x == y with
      | true =>
        have e1 : k = NameKind.cell := by simpa using hk
        exact absurd (by rw [beq_iff_eq.mp hx, e1]; exact List.mem_cons_self) hm
      | false => exact h
    · exact from_keep r n acc hm' h
theorem from_has {x : Str} : ∀ (names : List (Str × NameKind)) (n : Nat) (acc : List (Str × Addr)), ((x, NameKind.cell) ∈ names ∨ ∃ c, acc.lookup x = some c) → ∃ c, (cellsFrom n names acc).lookup x = some c
  | [], _, _, hm => hm.elim (fun z => nomatch z) fun z => z
  | (y, k) :: r, n, acc, hm => by
    unfold cellsFrom
    split
    · rename_i hk
      refine from_has r (n + 1) _ ?_
      by_cases hx : x = y
      · exact .inr ⟨n, by rw [hx, List.lookup_cons, beq_self_eq_true]⟩
      · rcases hm with hm | ⟨c, hm⟩
        · rcases List.mem_cons.mp hm with e | hm
          · cases e; exact absurd rfl hx
          · exact .inl hm
        · exact .inr ⟨c, by rw [List.lookup_cons, beq_eq_false_iff_ne.mpr hx]; exact hm⟩
    · rename_i hk
      refine from_has r n acc ?_
      rcases hm with hm | hm
      · rcases List.mem_cons.mp hm with e | hm
        · cases e; exact absurd rfl hk
        · exact .inl hm
      · exact .inr hm
theorem from_inj : ∀ (names : List (Str × NameKind)) (n : Nat) (acc : List (Str × Addr)), (∀ x c, acc.lookup x = some c → c < n) → (∀ x y c, acc.lookup x = some c → acc.lookup y = some c → x = y) →
    ∀ x y c, (cellsFrom n names acc).lookup x = some c → (cellsFrom n names acc).lookup y = some c → x = y
  | [], _, _, _, hi => hi
  | (z, k) :: r, n, acc, hb, hi => by
    unfold cellsFrom
    split
    · refine from_inj r (n + 1) _ (fun x c q => ?_) fun x y c q q' => ?_
      · rw [List.lookup_cons] at q
        cases hx : x == z with
        | true => rw [hx] at q; cases q; exact Nat.lt_succ_self _
        | false => rw [hx] at q; exact Nat.lt_succ_of_lt (hb x c q)
      · rw [List.lookup_cons] at q q'
        cases hx : x == z with
        | true =>
          rw [hx] at q; cases q
          cases hy : y == z with
          | true => rw [beq_iff_eq.mp hx, beq_iff_eq.mp hy]
          | false => rw [hy] at q'; exact absurd (hb y _ q') (Nat.lt_irrefl _)
        | false =>
          rw [hx] at q
          cases hy : y == z with
          | true => rw [hy] at q'; cases q'; exact absurd (hb x _ q) (Nat.lt_irrefl _)
          | false => rw [hy] at q'; exact hi x y c q q'
    · exact from_inj r n acc hb hi
theorem push_cells : ∀ (names : List (Str × NameKind)) (h : Heap) (acc : List (Str × Addr)) {x : Str} {c : Addr}, (cellsFrom h.objs.size names acc).lookup x = some c → (pushCells h names).IsCell c none ∨ acc.lookup x = some c
  | [], _, _, _, _, q => .inr q
  | (z, k) :: r, h, acc, x, c, q => by
    unfold cellsFrom at q
    unfold pushCells
    split at q
    · rename_i hk
      rw [if_pos hk]
      have e : (h.push { cls := .type "cell", data := .cell none }).objs.size = h.objs.size + 1 := Heap.size_push ..
      rw [← e] at q
      rcases push_cells r _ _ q with q | q
      · exact .inl q
      · rw [List.lookup_cons] at q
        cases hx : x == z with
        | true =>
          rw [hx] at q; cases q
          refine .inl ?_
          have w : (h.push { cls := .type "cell", data := .cell none }).IsCell h.objs.size none := ⟨_, Heap.get?_push_size _ rfl, rfl⟩
          exact w.keeps (pushCells_keeps r _)
        | false => rw [hx] at q; exact .inr q
    · rename_i hk
      rw [if_neg hk]
      exact push_cells r h acc q
def blockEnv (scope : Scope) (env : Env) (C : Addr) : Env :=
  { scope := relabel scope env, locals := C, globals := env.globals, cells := cellsFrom (C + 1) scope.names (clo env.cells scope.names []), qual := env.qual, func := none, code := env.code, frame := env.frame, builtins := env.builtins }
theorem newBlock {M : Model} {A : Around} {E : Value → Shared → Prop} {s : Shared} {scope : Scope} {env : Env} {cl : List (Str × Addr)} {Q : Env → Shared → Prop}
    (h : Q { scope := scope, locals := s.heap.objs.size, globals := env.globals, cells := cellsFrom (s.heap.objs.size + 1) scope.names cl, qual := env.qual, func := none, code := env.code, frame := env.frame, builtins := env.builtins }
      { s with heap := pushCells (s.heap.push { cls := .type "dict", data := .dict #[] }) scope.names }) :
    wpAny M A (newFunctionEnv scope env.globals cl [] env.qual none .none (some env)) Q E s := by
  have top : ({ s with heap := s.heap.push { cls := .type "dict", data := .dict #[] } } : Shared).heap.objs.size = s.heap.objs.size + 1 := Heap.size_push ..
  rw [← top] at h
  unfold newFunctionEnv
  simp only [Option.isSome_some, if_true]
  exact wpAny_bind (wpAny_alloc (wpAny_bind (wpAny_layCells _ (fun n k cs => by by_cases c : (k == NameKind.cell) = true <;> simp [c]) _ _ _ _ (wpAny_bind (wpAny_pure (wpAny_pure h))))))
structure BlockScope (sc : Scope) (N : List Str) (scope : Scope) (N' : List Str) (cap : List (Option Nat)) : Prop where
 kind : scope.kind = .function
 free : ∀ y ∈ scope.names, y.2 = .free → sc.names.lookup y.1 = some .cell ∨ sc.names.lookup y.1 = some .free
 len : cap.length = N'.length
 capt : ∀ (i j : Nat), cap[i]? = some (some j) → ∃ x : Str, N'[i]? = some x ∧ N[j]? = some x ∧ (x, NameKind.free) ∈ scope.names ∧ (x, NameKind.cell) ∉ scope.names
 names : ∀ y ∈ scope.names, y.2 = .local → scope.names.lookup y.1 = some .local
 own : ∀ y ∈ scope.names, scope.names.lookup y.1 = some y.2
def blockOk (sc : Scope) (N : List Str) (scope : Scope) (N' : List Str) (cap : List (Option Nat)) : Bool :=
  scope.kind == .function && (scope.names.all fun y => y.2 != .free || sc.names.lookup y.1 == some .cell || sc.names.lookup y.1 == some .free) && cap.length == N'.length &&
    ((List.range cap.length).all fun i => match cap[i]? with
      | some (some j) => (match N'[i]?, N[j]? with
        | some x, some y => x == y && scope.names.any (fun z => z.1 == x && z.2 == .free) && scope.names.all (fun z => !(z.1 == x && z.2 == .cell))
        | _, _ => false)
      | _ => true) && scope.names.all fun y => scope.names.lookup y.1 == some y.2
theorem BlockScope.of {sc : Scope} {N : List Str} {scope : Scope} {N' : List Str} {cap : List (Option Nat)} (h : blockOk sc N scope N' cap = true) : BlockScope sc N scope N' cap := by
 unfold blockOk at h
 simp only [Bool.and_eq_true] at h
 obtain ⟨⟨⟨⟨h1, h2⟩, h3⟩, h4⟩, h5⟩ := h
 have own : ∀ y ∈ scope.names, scope.names.lookup y.1 = some y.2 := fun y hy => by
  have := List.all_eq_true.mp h5 y hy
  simpa using this
 refine ⟨by simpa using h1, fun y hy hf => ?_, by simpa using h3, fun i j e => ?_, fun y hy hl => by rw [own y hy, hl], own⟩
 ·have := List.all_eq_true.mp h2 y hy
  rw [hf] at this
  simpa using this
 ·have hi : i < cap.length := (List.getElem?_eq_some_iff.mp e).1
  have := List.all_eq_true.mp h4 i (List.mem_range.mpr hi)
  rw [e] at this
  dsimp only at this
  cases hx : N'[i]? with
  | none => rw [hx] at this; simp at this
  | some x =>
   cases hy : N[j]? with
   | none => rw [hx, hy] at this; simp at this
   | some y =>
    rw [hx, hy] at this
    simp only [Bool.and_eq_true] at this
    obtain ⟨⟨t1, t2⟩, t3⟩ := this
    have e1 : x = y := by simpa using t1
    subst e1
    obtain ⟨z, hz, t⟩ := List.any_eq_true.mp t2
    simp only [Bool.and_eq_true] at t
    have z1 : z.1 = x := by simpa using t.1
    have z2 : z.2 = .free := by simpa using t.2
    have ez : z = (x, NameKind.free) := by rw [← z1, ← z2]
    refine ⟨x, rfl, rfl, ez ▸ hz, fun hm => ?_⟩
    have := List.all_eq_true.mp t3 _ hm
    simp at this
def capOf (cap : List (Option Nat)) (σ : St) : St := cap.map fun o => match o with | some j => (match σ[j]? with | some v => v | none => none) | none => none
end L2

end

section
namespace L2
open PySem PySem.Spec PyProof.Rows
def PTs (X : Cx) (cs : List Expr) (t : TT) : Prop :=
 ∀ (pins : List (Addr × Obj)) (s : Shared) (σ : St) (H : Hp) (Q : Bool → Hp → Prop), Inv X pins σ H s → t σ H Q →
  wpAny (model X.prog X.w) X.A (forIn cs true fun c r => if r = true then do let ok ← isTrue c X.env (eval c X.env); pure (ForInStep.yield ok) else pure (ForInStep.yield r)) (TP X pins σ Q) X.xe s
def tAlways : TT := fun _ H Q => Q true H
theorem pts_nil {X : Cx} : PTs X [] tAlways := fun _ _ σ H Q I h => wpAny_tests_nil ⟨H, I, h⟩
theorem pts_one {X : Cx} {c : Expr} {t : TT} (h : PT X c t) : PTs X [c] t := fun pins s σ H Q I q => wpAny_tests_one (h pins s σ H Q I q)
def blockCx (X : Cx) (N' : List Str) (scope : Scope) (s : Shared) (H : Hp) (ex : List Addr) (C : Addr) : Cx :=
  { X with N := N', s₀ := s, H₀ := H, env := blockEnv scope X.env C, outer := X.stack, ex := ex, fn := fun x => scope.names.any fun z => z.1 == x && z.2 == .cell, pn := [], xe := fun _ _ => False }
theorem lookup_relabel {env : Env} {x : Str} : ∀ (names : List (Str × NameKind)), (names.map fun (n, k) => if (k == NameKind.free && env.scope.kind == .function && env.kindOf n == some .cell) then (n, NameKind.cell) else (n, k)).lookup x =
    (names.lookup x).map fun k => if (k == NameKind.free && env.scope.kind == .function && env.kindOf x == some .cell) then NameKind.cell else k
  | [] => rfl
  | (n, k) :: r => by
    have ih := lookup_relabel (env := env) (x := x) r
    show List.lookup x ((if (k == NameKind.free && env.scope.kind == .function && env.kindOf n == some .cell) = true then (n, NameKind.cell) else (n, k)) :: _) = _
    cases hx : x == n with
    | true =>
      have e : x = n := beq_iff_eq.mp hx
      subst e
      split <;> simp_all [List.lookup_cons]
    | false =>
      have e : (List.lookup x ((n, k) :: r)) = r.lookup x := by rw [List.lookup_cons, hx]
      rw [e, ← ih]
      split <;> simp [List.lookup_cons, hx]
section
variable {X : Cx} {pins : List (Addr × Obj)} {σ : St} {H : Hp} {s : Shared} {scope : Scope} {N' : List Str} {cap : List (Option Nat)} {fp : List Addr}
theorem block_ok (I : Inv X pins σ H s) (B : BlockScope X.env.scope X.N scope N' cap) (hf : ∀ b ∈ fp, FpOk X pins H b) (hlt : ∀ b ∈ fp, b < s.heap.objs.size) {C : Addr} (hC : s.heap.objs.size ≤ C) :
  (blockCx X N' scope s H fp C).Ok := by
 have clt : ∀ x c, X.env.cells.lookup x = some c → c < s.heap.objs.size := fun x c e => let ⟨_, q⟩ := I.cell x c e; q.lt
 have acc : ∀ x c, (clo X.env.cells scope.names []).lookup x = some c → X.env.cells.lookup x = some c := fun x c e => (clo_look _ _ e).elim id fun z => nomatch z
 refine ⟨I.ok.mod, B.kind, I.ok.glob, I.ok.blt, hC, fun x y c h1 h2 => ?_, fun x hx => ?_, fun x c hx h => ?_, I.ok.hd, I.ok.frames, .inl rfl, fun b hb => ⟨?_, fun x c h e => ?_⟩, I.bs, Nat.le_trans I.ok.bsz I.sz, fun b o e hb => ?_, fun b hb z => ?_, I.stack, I.stkFree⟩
 ·exact from_inj scope.names (C + 1) _ (fun x c e => Nat.lt_succ_of_lt (Nat.lt_of_lt_of_le (clt x c (acc x c e)) hC)) (fun x y c e e' => I.ok.inj x y c (acc x c e) (acc y c e')) x y c h1 h2
 ·have hx' : (relabel scope X.env).names.lookup x = some .cell ∨ (relabel scope X.env).names.lookup x = some .free := hx
  have hl : (scope.names.lookup x).isSome = true := by
   unfold relabel at hx'
   rw [lookup_relabel] at hx'
   cases q : scope.names.lookup x with
   | none => rw [q] at hx'; rcases hx' with z | z <;> cases z
   | some k => rfl
  obtain ⟨k, hk⟩ := Option.isSome_iff_exists.mp hl
  have hm := PySem.mem_of_lookup hk
  refine from_has scope.names (C + 1) _ ?_
  cases k with
  | cell => exact .inl hm
  | free =>
   refine .inr ?_
   obtain ⟨c, hc⟩ := I.ok.has x (B.free _ hm rfl)
   exact ⟨c, clo_has hc _ _ hm⟩
  | _ =>
   unfold relabel at hx'
   rw [lookup_relabel, hk] at hx'
   rcases hx' with z | z <;> simp at z
 ·have hx' : (scope.names.any fun z => z.1 == x && z.2 == .cell) = true := hx
  obtain ⟨z, hz, t⟩ := List.any_eq_true.mp hx'
  simp only [Bool.and_eq_true] at t
  have z1 : z.1 = x := by simpa using t.1
  have z2 : z.2 = .cell := by simpa using t.2
  have ez : z = (x, NameKind.cell) := by rw [← z1, ← z2]
  have := from_own (lo := C + 1) scope.names (C + 1) _ (Nat.le_refl _) (.inl (ez ▸ hz)) h
  exact Nat.le_trans hC (Nat.le_of_succ_le this)
 ·exact Nat.ne_of_lt (Nat.lt_of_lt_of_le (hlt b hb) hC)
 ·rcases from_look scope.names (C + 1) _ h with q | q
  ·have := hlt b hb
   rw [← e] at this
   exact absurd (Nat.lt_of_lt_of_le this (Nat.le_trans hC (Nat.le_of_succ_le q))) (Nat.lt_irrefl _)
  ·exact (hf b hb).2.2.2.2.1 x c (acc x c q) e
 ·obtain ⟨_, _, _, f3, _⟩ := hf b hb
  rcases f3 with f3 | f3
  ·exact I.ok.noex b o e f3
  ·exact absurd (Nat.lt_of_lt_of_le (Heap.lt_size e) (Nat.le_trans I.ok.bsz f3)) (Nat.lt_irrefl _)
 ·obtain ⟨_, f1, f2, _⟩ := hf b hb
  rcases List.mem_cons.mp (I.stkSub b z) with q | q
  ·exact f1 q
  ·exact f2 q
theorem block_start (I : Inv X pins σ H s) (B : BlockScope X.env.scope X.N scope N' cap) (hf : ∀ b ∈ fp, FpOk X pins H b) (hlt : ∀ b ∈ fp, b < s.heap.objs.size) {h3 : Heap} (hk : ∀ b o, s.heap.get? b = some o → h3.get? b = some o) (hsz : s.heap.objs.size ≤ h3.objs.size) :
  Inv (blockCx X N' scope s H fp h3.objs.size) [] (capOf cap σ) H { s with heap := pushCells (h3.push { cls := .type "dict", data := .dict #[] }) scope.names } := by
 have acc : ∀ x c, (clo X.env.cells scope.names []).lookup x = some c → X.env.cells.lookup x = some c := fun x c e => (clo_look _ _ e).elim id fun z => nomatch z
 have hk3 : ∀ b o, h3.get? b = some o → (pushCells (h3.push { cls := .type "dict", data := .dict #[] }) scope.names).get? b = some o := fun b o e => pushCells_keeps _ _ b o (Heap.get?_push_of_some _ e)
 have hk4 : ∀ b o, s.heap.get? b = some o → (pushCells (h3.push { cls := .type "dict", data := .dict #[] }) scope.names).get? b = some o := fun b o e => hk3 b o (hk b o e)
 refine ⟨block_ok I B hf hlt hsz, rfl, I.bare, Un.kept hk4, ⟨fun _ => none, (Heap.Ns.new h3 (.type "dict")).keeps (pushCells_keeps _ _), fun i x v h1 h2 h4 => ?_⟩, fun x c h => ?_, ?_, fun x c h => ?_, fun p hp => absurd (show p ∈ ([] : List (Addr × Obj)) from hp) (by simp), I.hok.kept hk4, ?_⟩
 ·have h2' : (capOf cap σ)[i]? = some (some v) := h2
  unfold capOf at h2'
  rw [List.getElem?_map] at h2'
  cases q : cap[i]? with
  | none => rw [q] at h2'; cases h2'
  | some o =>
   rw [q] at h2'
   cases o with
   | none => exact nomatch Option.some.inj h2'
   | some j =>
    have h2'' : (match σ[j]? with | some v => v | none => none) = some v := Option.some.inj h2'
    cases qs : σ[j]? with
    | none => rw [qs] at h2''; cases h2''
    | some v' =>
     rw [qs] at h2''
     have hs : σ[j]? = some (some v) := by rw [qs]; exact congrArg some h2''
     obtain ⟨x', e1, e2, e3, e4⟩ := B.capt i j q
     have h1' : N'[i]? = some x := h1
     rw [h1'] at e1; cases e1
     have hcf := B.free _ e3 rfl
     obtain ⟨m, hn, hl⟩ := I.loc
     obtain ⟨u, ru, lk⟩ := hl j x v e2 hs (hcf.elim (fun z => .inr (.inl z)) fun z => .inr (.inr z))
     refine ⟨u, ru, ?_⟩
     rcases lk with ⟨lk, _⟩ | ⟨_, c, hc, ic⟩
     ·have lk' : X.env.scope.names.lookup x = some .local := lk
      have hcf' : X.env.scope.names.lookup x = some .cell ∨ X.env.scope.names.lookup x = some .free := hcf
      rw [lk'] at hcf'; rcases hcf' with z | z <;> cases z
     ·refine .inr ⟨?_, c, from_keep _ _ _ e4 (clo_has hc _ _ e3), ic.keeps hk4⟩
      have : (relabel scope X.env).names.lookup x = some .cell ∨ (relabel scope X.env).names.lookup x = some .free := by
       unfold relabel
       rw [lookup_relabel, B.own _ e3]
       dsimp only [Option.map]
       split
       ·exact .inl rfl
       ·exact .inr rfl
      exact this
 ·have h' : (cellsFrom (h3.objs.size + 1) scope.names (clo X.env.cells scope.names [])).lookup x = some c := h
  have e : (h3.push { cls := .type "dict", data := .dict #[] }).objs.size = h3.objs.size + 1 := Heap.size_push ..
  rw [← e] at h'
  rcases push_cells _ _ _ h' with q | q
  ·exact ⟨_, q⟩
  ·obtain ⟨v, z⟩ := I.cell x c (acc x c q)
   exact ⟨v, z.keeps hk4⟩
 ·exact I.hok.fresh hsz
 ·rcases from_look scope.names (h3.objs.size + 1) _ h with q | q
  ·exact I.hok.fresh (Nat.le_trans hsz (Nat.le_of_succ_le q))
  ·exact I.freeC x c (acc x c q)
 ·show (capOf cap σ).length = N'.length
  unfold capOf
  rw [List.length_map]
  exact B.len
end
end L2

end

section
namespace L2
open PySem PySem.Spec PyProof.Rows
def Keep : St → St → Prop
 | [], [] => True
 | none :: r, _ :: r' => Keep r r'
 | some v :: r, o :: r' => o = some v ∧ Keep r r'
 | _, _ => False
theorem Keep.len : ∀ {a b : St}, Keep a b → a.length = b.length
 | [], [], _ => rfl
 | none :: r, _ :: r', h => by have h' : Keep r r' := h; simp [Keep.len h']
 | some v :: r, o :: r', h => by have h' : o = some v ∧ Keep r r' := h; simp [Keep.len h'.2]
theorem Keep.get : ∀ {a b : St} {i : Nat} {v : V}, Keep a b → a[i]? = some (some v) → b[i]? = some (some v)
 | [], [], _, _, _, e => by simp at e
 | none :: r, _ :: r', 0, v, h, e => by simp at e
 | none :: r, _ :: r', i + 1, v, h, e => by
  have h' : Keep r r' := h
  simpa using Keep.get (i := i) h' (by simpa using e)
 | some v :: r, o :: r', 0, w, h, e => by
  have h' : o = some v ∧ Keep r r' := h
  simp at e
  simp [h'.1, e]
 | some v :: r, o :: r', i + 1, w, h, e => by
  have h' : o = some v ∧ Keep r r' := h
  simpa using Keep.get (i := i) h'.2 (by simpa using e)
def br (c : Bool) (A B : Prop) : Prop := (c = true → A) ∧ (c = false → B)
def tComp (wi : TI) (cap : List (Option Nat)) (g : TG) (tt : TT) (te : TE) : St → Hp → (List V → Hp → Prop) → Prop := fun σ H Q => wi σ H fun J H1 =>
 ∃ W : Nat → Nat → List V → Hp → Prop, (∃ m, W 0 m [] H1) ∧ ∀ i m ys H, W i m ys H →
  (J.stop i H ∧ Q ys H) ∨
  (J.go i H ∧ ys.length < sizeLine ∧ ∃ N : List V → Hp → Prop, (∀ ys' H', N ys' H' → ∃ m', m' < m ∧ W (i + 1) m' ys' H') ∧ ∀ x H', J.yld i H x H' → g x (capOf cap σ) H' fun σ2 H2 => Keep (capOf cap σ) σ2 ∧ tt σ2 H2 fun b H3 =>
   br b (te σ2 H3 fun y H4 => N (ys ++ [y]) H4) (N ys H3))
structure Left (X : Cx) (pins : List (Addr × Obj)) (C : Addr) (H : Hp) (s : Shared) : Prop where
 ns : ∃ m, s.heap.Ns C m
 free : H C = none
 loc : C ≠ X.env.locals
 sz : X.s₀.heap.objs.size ≤ C
 cell : ∀ x c, X.env.cells.lookup x = some c → c ≠ C
 pin : ∀ p ∈ X.pn ++ pins, p.1 ≠ C
abbrev TB := St → List V → Hp → (List V → Hp → Prop) → Prop
def turnB (E : Expr) (d : Nat) (tg it : Expr) (ifs : List Expr) (body : Sem PySem.Fin) (itv acc : Value) (env : Env) : Sem PySem.Fin := do
  standAt it.pos
  let r ← pyNext itv
  match r with
   | none => pure (Fin.done Flow.next)
   | some v => do
    letOwnedTupleGo tg itv v
    assign tg env v
    let ok ← forIn ifs true fun c r => if r = true then do let ok ← PySem.isTrue c env (eval c env); pure (ForInStep.yield ok) else pure (ForInStep.yield r)
    if ok = true then body else again (Code.compLoop E d itv acc env)
def bodyL (E : Expr) (d : Nat) (elt : Expr) (itv acc : Value) (env : Env) : Sem PySem.Fin := do
  let _ ← (do
   let x ← eval elt env
   let _ ← call (Value.builtin "list.append") [acc, x]
   pure ())
  again (Code.compLoop E d itv acc env)
def bodyU (E : Expr) (d : Nat) (it2 : Expr) (itv acc : Value) (env : Env) : Sem PySem.Fin := do
  let x ← eval it2 env
  standAt it2.pos
  let x ← foldedSetIterable it2 env x
  let j ← holding [x] (pyIter x)
  let _ ← runOwn (Code.compStart E (d + 1) j acc env) env
  again (Code.compLoop E d itv acc env)
abbrev loopsTo (M : Model) (A : Around) (E : Expr) (d : Nat) (itv acc : Value) (env : Env) (body : Sem PySem.Fin) (P : Shared → Prop) (s : Shared) : Prop := wpAny M A body (fun fin s' => fin = .again (.compLoop E d itv acc env) ∧ P s') (fun _ _ => False) s
section
variable {prog : Program} {w : World} {A : Around} {R : Result → Shared → Prop} {s : Shared} {e0 tg it elt it2 : Expr} {gs : List Comprehension} {ifs : List Expr} {sc : Scope} {ps : Pos} {itv acc : Value} {env : Env} {d : Nat} {body : Sem PySem.Fin} {P : Shared → Prop}
theorem bodyL_ok {E : Expr} (h : wpAny (model prog w) A (eval elt env) (fun x s₄ => wpAny (model prog w) A (call (.builtin "list.append") [acc, x]) (fun _ s₅ => P s₅) (fun _ _ => False) s₄) (fun _ _ => False) s) : loopsTo (model prog w) A E d itv acc env (bodyL E d elt itv acc env) P s :=
 wpAny_bind (wpAny_bind (wpAny_mono h (fun x s₄ h₄ => wpAny_bind (wpAny_mono h₄ (fun _ s₅ h₅ => wpAny_pure (wpAny_pure ⟨rfl, h₅⟩)) fun _ _ h' => h'.elim)) fun _ _ h' => h'.elim))
theorem bodyU_ok {E : Expr} (hs : ∀ x, foldedSetIterable it2 env x = pure x) (h : wpAny (model prog w) A (eval it2 env) (fun x s₄ => wpAny (model prog w) A (pyIter x) (fun j s₅ => codeAny (model prog w) (A.mark none) (.compStart E (d + 1) j acc env) (fun r s₆ => r = .ok .next ∧ P s₆) s₅) (fun _ _ => False) s₄) (fun _ _ => False) s) : loopsTo (model prog w) A E d itv acc env (bodyU E d it2 itv acc env) P s := by
 refine wpAny_bind (wpAny_mono h (fun x s₄ h₄ => wpAny_bind (wpAny_standAt ?_)) fun _ _ h' => h'.elim)
 rw [hs]
 refine wpAny_bind (wpAny_pure (wpAny_bind (wpAny_holding (wpAny_mono h₄ (fun j s₅ h₅ => ?_) fun _ _ h' => h'.elim))))
 refine wpAny_bind (wpAny_runOwn (codeAny_mono h₅ fun r s₆ h₆ => ?_))
 obtain ⟨rfl, h₆⟩ := h₆
 exact wpAny_pure ⟨rfl, h₆⟩
theorem loopB (ht : compTurn (.ListComp e0 gs sc ps) d itv acc env = turnB (.ListComp e0 gs sc ps) d tg it ifs body itv acc env) (I : Nat → Shared → Prop)
  (turn : ∀ n s, I n s → wpAny (model prog w) A (pyNext itv) (fun r s₁ => match r with
   | none => R (.ok .next) s₁
   | some v => wpAny (model prog w) A (letOwnedTupleGo tg itv v) (fun _ s₁' => wpAny (model prog w) A (assign tg env v) (fun _ s₂ =>
     wpAny (model prog w) A (forIn ifs true fun c r => if r = true then do let ok ← isTrue c env (eval c env); pure (ForInStep.yield ok) else pure (ForInStep.yield r)) (fun ok s₃ =>
      if ok = true then loopsTo (model prog w) A (.ListComp e0 gs sc ps) d itv acc env body (fun s₅ => ∃ m, m < n ∧ I m s₅) s₃
      else ∃ m, m < n ∧ I m s₃) (fun _ _ => False) s₂) (fun _ _ => False) s₁') (fun _ _ => False) s₁) (fun _ _ => False) s)
  (n : Nat) (h : I n s) : codeAny (model prog w) A (.compLoop (.ListComp e0 gs sc ps) d itv acc env) R s := by
 refine codeAny_loop rfl I (fun n s hI => ?_) n h
 show wpAny _ A ((compTurn (.ListComp e0 gs sc ps) d itv acc env).onRaise (fun x => do noteFrame x env; theTreesLotGoes x)) _ _ s
 refine wpAny_noted ?_
 rw [ht]
 unfold turnB
 refine wpAny_bind (wpAny_standAt (wpAny_bind (wpAny_mono (turn n s hI) (fun r s₁ h₁ => ?_) fun _ _ h' => h'.elim)))
 cases r with
 | none => exact wpAny_pure h₁
 | some v =>
  refine wpAny_bind (wpAny_mono h₁ (fun _ s₁' h₁' => ?_) fun _ _ h' => h'.elim)
  refine wpAny_bind (wpAny_mono h₁' (fun _ s₂ h₂ => wpAny_bind (wpAny_mono h₂ (fun ok s₃ h₃ => ?_) fun _ _ h' => h'.elim)) fun _ _ h' => h'.elim)
  cases ok with
  | false => exact wpAny_pure ⟨rfl, h₃⟩
  | true => exact wpAny_mono h₃ (fun fin s₅ ⟨e, q⟩ => by subst e; exact ⟨rfl, q⟩) fun _ _ h' => h'.elim
end
structure AccOk (Y : Cx) (a : Addr) : Prop where
 loc : a ≠ Y.env.locals
 fs : a ∉ Y.fs
 sz : a ∈ Y.ex ∨ Y.s₀.heap.objs.size ≤ a
 cell : ∀ x c, Y.env.cells.lookup x = some c → c ≠ a
 pn : Y.pn = []
 calm : Y.calm = true
abbrev lobj (its : List Value) (k : Nat) : Obj := { cls := .type "list", data := .seq its.toArray k }
structure Grown (Y : Cx) (a : Addr) (PB : List (Addr × Obj)) (σ : St) (zs : List V) (H : Hp) (s : Shared) : Prop where
 inv : Inv Y PB σ H s
 no : H a = none
 len : zs.length ≤ sizeLine
 at' : ∃ its k, s.heap.get? a = some (lobj its k) ∧ Vals zs its
theorem Grown.pin {Y : Cx} {a : Addr} {PB : List (Addr × Obj)} {σ : St} {zs : List V} {H : Hp} {s : Shared} {its : List Value} {k : Nat} (A : AccOk Y a) (g : Grown Y a PB σ zs H s) (e : s.heap.get? a = some (lobj its k)) : Inv Y ((a, lobj its k) :: PB) σ H s :=
 g.inv.pins_of fun p hp => by
  rcases List.mem_cons.mp hp with rfl | hp
  ·exact ⟨e, g.no, A.loc, A.fs, fun v z => by
    have z' : Data.seq its.toArray k = Data.cell v := z
    cases z'⟩
  ·exact g.inv.pin p (List.mem_append_right _ hp)
theorem Inv.grown {Y : Cx} {a : Addr} {PB : List (Addr × Obj)} {σ : St} {zs : List V} {H : Hp} {s : Shared} {its : List Value} {k : Nat} (I : Inv Y ((a, lobj its k) :: PB) σ H s) (hz : zs.length ≤ sizeLine) (v : Vals zs its) : Grown Y a PB σ zs H s := by
 have q := I.pin (a, lobj its k) (List.mem_append_right _ List.mem_cons_self)
 exact ⟨I.pins_of fun p hp => I.pin p (List.mem_append_right _ (List.mem_cons_of_mem _ hp)), q.2.1, hz, its, k, q.1, v⟩
def zLt : List V → Prop → Prop := fun zs p => zs.length < sizeLine ∧ p
def zId : List V → Prop → Prop := fun _ p => p
def BodyOk (Y : Cx) (a : Addr) (E : Expr) (d : Nat) (body : Value → Sem PySem.Fin) (C : List V → Prop) (B : TB) : Prop :=
 ∀ (jt : Value) (PB : List (Addr × Obj)) (σ : St) (zs : List V) (H : Hp) (s : Shared) (N : List V → Hp → Prop) (P : Shared → Prop), (∀ p ∈ PB, p.1 ≠ a) → Grown Y a PB σ zs H s → C zs → B σ zs H N → (∀ zs' H' s', Grown Y a PB σ zs' H' s' → N zs' H' → P s') → loopsTo (model Y.prog Y.w) Y.A E d jt (.ref a) Y.env (body jt) P s
theorem loop_ok {e0 tg it : Expr} {gs : List Comprehension} {ifs : List Expr} {sc : Scope} {ps : Pos} {d m0 : Nat} {Y : Cx} {a jt : Addr} {PB : List (Addr × Obj)} {g : TG} {tt : TT} {B : TB} {C : List V → Prop} {Z : List V → Prop → Prop} {body : Value → Sem PySem.Fin} {fp : List Addr} {tn : Nat → Heap → Prop} {J : It} {W : Nat → Nat → List V → Hp → Prop} {σ : St} {ys : List V} {H : Hp} {s : Shared} {N : List V → Hp → Prop} {R : Result → Shared → Prop}
  (A : AccOk Y a) (hPB : ∀ p ∈ PB, p.1 ≠ a) (ht : ∀ itv, compTurn (.ListComp e0 gs sc ps) d itv (.ref a) Y.env = turnB (.ListComp e0 gs sc ps) d tg it ifs (body itv) itv (.ref a) Y.env) (hx : Y.xe = fun _ _ => False) (hg : PG Y tg g) (htt : PTs Y ifs tt) (hb : BodyOk Y a (.ListComp e0 gs sc ps) d body C B) (hZ : ∀ zs p, Z zs p → C zs ∧ p)
  (T : Turn Y.prog Y.w Y.K tg J fp jt tn) (na : ∀ b ∈ fp, b ≠ a) (fpY : ∀ {o : Obj} {H' : Hp}, (∀ b ∈ fp, H' b = none) → ∀ b ∈ fp, FpOk Y ((a, o) :: PB) H' b) (st : tn 0 s.heap) (gr : Grown Y a PB σ ys H s) (hn : ∀ b ∈ fp, H b = none) (w0 : W 0 m0 ys H)
  (turn : ∀ j m zs H, W j m zs H → (J.stop j H ∧ N zs H) ∨ (J.go j H ∧ Z zs (∃ N2 : List V → Hp → Prop, (∀ zs' H', N2 zs' H' → ∃ m', m' < m ∧ W (j + 1) m' zs' H') ∧ ∀ x H', J.yld j H x H' → g x σ H' fun σ3 H2 => Keep σ σ3 ∧ tt σ3 H2 fun b H3 => br b (B σ3 zs H3 N2) (N2 zs H3))))
  (back : ∀ zs H' s', Grown Y a PB σ zs H' s' → N zs H' → R (.ok .next) s') : codeAny (model Y.prog Y.w) Y.A (.compLoop (.ListComp e0 gs sc ps) d (.ref jt) (.ref a) Y.env) R s := by
 refine loopB (ht _) (fun n' s' => ∃ (j : Nat) (zs : List V) (H' : Hp), Grown Y a PB σ zs H' s' ∧ tn j s'.heap ∧ (∀ b ∈ fp, H' b = none) ∧ W j n' zs H') ?_ m0 ⟨0, ys, H, gr, st, hn, w0⟩
 rintro n' s12 ⟨j, zs, H12, g12, st12, fr12, w12⟩
 obtain ⟨its', k', e12, v12⟩ := g12.at'
 have I12 := g12.pin A e12
 rcases turn j n' zs H12 w12 with ⟨stop, q⟩ | ⟨go2, hz0⟩
 ·refine thn (T.done Y rfl rfl rfl A.calm j _ s12 _ H12 _ I12 (fpY fr12) st12 stop) fun r s13 ⟨hr, I13⟩ => ?_
  subst hr
  exact back zs H12 s13 (Inv.grown I13 g12.len v12) q
 ·obtain ⟨hC, N2, hN2, step2⟩ := hZ _ _ hz0
  refine thn (T.item Y rfl rfl rfl A.calm j _ s12 _ H12 _ I12 (fpY fr12) st12 go2) fun r s13 ⟨u2, hr, h13⟩ => ?_
  subst hr
  refine thn h13 fun _ s14 ⟨x2, H14, I14, r14, y14, st14, fr14⟩ => ?_
  have I14' := I14.pinned (fpY fr14) (T.obj _ _ st14)
  have hgY := hg _ s14 _ H14 x2 u2 _ I14' r14 (step2 x2 H14 y14)
  rw [hx] at hgY
  refine thn hgY fun _ s15 ⟨σ15, H15, I15, kp2, q15⟩ => ?_
  have htY := htt _ s15 σ15 H15 _ I15 q15
  rw [hx] at htY
  refine thn htY fun b2 s16 ⟨H16, I16, q16⟩ => ?_
  have pn : ∀ p ∈ PB ++ pinsAt fp s14.heap, p.1 ≠ a := fun p hp => by
   rcases List.mem_append.mp hp with hp | hp
   ·exact hPB p hp
   ·exact na p.1 (of_pinsAt hp).1
  have back2 : ∀ {σ' : St} {zs' : List V} {H' : Hp} {s' : Shared}, Keep σ σ' → Grown Y a (PB ++ pinsAt fp s14.heap) σ' zs' H' s' → N2 zs' H' → ∃ m, m < n' ∧ ∃ (j : Nat) (zs : List V) (H' : Hp), Grown Y a PB σ zs H' s' ∧ tn j s'.heap ∧ (∀ b ∈ fp, H' b = none) ∧ W j m zs H' := fun {σ' zs' H' s'} kp G n2 => by
   obtain ⟨m', hm, w16⟩ := hN2 _ _ n2
   refine ⟨m', hm, j + 1, zs', H', ⟨(G.inv.pins_of fun p hp => G.inv.pin p (List.mem_append_right _ (List.mem_append_left _ hp))).weak (by rw [kp.len]) fun i v e => kp.get e, G.no, G.len, G.at'⟩, T.keep _ _ _ st14 fun b hb o e => (G.inv.pin (b, o) (List.mem_append_right _ (List.mem_append_right _ (mem_pinsAt hb e)))).1, fun b hb => ?_, w16⟩
   obtain ⟨o, e, d⟩ := T.obj _ _ st14 b hb
   exact (G.inv.pin (b, o) (List.mem_append_right _ (List.mem_append_right _ (mem_pinsAt hb e)))).2.1
  have g16 : Grown Y a (PB ++ pinsAt fp s14.heap) σ15 zs H16 s16 := Inv.grown I16 g12.len v12
  cases b2 with
  | false =>
   rw [if_neg Bool.false_ne_true]
   exact back2 kp2 g16 (q16.2 rfl)
  | true =>
   rw [if_pos rfl]
   exact hb _ _ _ _ _ _ _ _ pn g16 hC (q16.1 rfl) fun zs' H' s' G n2 => back2 kp2 G n2
def bLast (te : TE) : TB := fun σ zs H N => te σ H fun y H4 => N (zs ++ [y]) H4
theorem body_last {Y : Cx} {a : Addr} {E elt : Expr} {d : Nat} {te : TE} (A : AccOk Y a) (hx : Y.xe = fun _ _ => False) (he : PE Y elt te) : BodyOk Y a E d (fun jt => bodyL E d elt jt (.ref a) Y.env) (fun zs => zs.length < sizeLine) (bLast te) := by
 intro jt PB σ zs H s N P hPB gr zlt h back
 obtain ⟨its', k', e12, v12⟩ := gr.at'
 have I16 := gr.pin A e12
 have heY := he _ s σ H _ I16 h
 rw [hx] at heY
 refine bodyL_ok (thn heY fun yv s17 ⟨y, H17, I17, r17, n17⟩ => ?_)
 have gI := Inv.grown I17 gr.len v12
 have b4 := (I17.pin (a, lobj its' k') (List.mem_append_right _ List.mem_cons_self)).1
 have hl := v12.length
 refine call_meets F.slot_list_append ⟨_, b4, rfl⟩ F.entry_list_append (F.args_list_append_2 _ _) (PySem.list_append a its'.toArray k' yv (by rw [List.size_toArray]; omega)) ⟨b4, ?_⟩
 have q := PySem.IsL.update b4 (fun a => a.push yv)
 have eqp : its'.toArray.push yv = (its' ++ [yv]).toArray := by simp
 rw [eqp] at q
 have I18 : Inv Y PB σ H17 { s17 with heap := s17.heap.update a (Obj.mapSeq fun a => a.push yv), toks := s17.toks } :=
  gI.inv.turned (it := a) (fun b o hb e => (Heap.get?_update_other s17.heap _ (Ne.symm hb)).trans e) gI.no A.loc A.sz A.cell fun p hp z => by
   rw [A.pn, List.nil_append] at hp
   exact hPB p hp z
 exact back (zs ++ [y]) H17 _ ⟨I18, gI.no, by rw [List.length_append, List.length_singleton]; omega, its' ++ [yv], _, q, v12.append (.cons r17 .nil)⟩ n17
def bUp (Z : List V → Prop → Prop) (wi : TI) (g : TG) (tt : TT) (B : TB) : TB := fun σ ys H N => wi σ H fun J H1 => ∃ W : Nat → Nat → List V → Hp → Prop, (∃ m, W 0 m ys H1) ∧ ∀ j m zs H, W j m zs H →
  (J.stop j H ∧ N zs H) ∨ (J.go j H ∧ Z zs (∃ N2 : List V → Hp → Prop, (∀ zs' H', N2 zs' H' → ∃ m', m' < m ∧ W (j + 1) m' zs' H') ∧ ∀ x H', J.yld j H x H' → g x σ H' fun σ3 H2 => Keep σ σ3 ∧ tt σ3 H2 fun b H3 => br b (B σ3 zs H3 N2) (N2 zs H3)))
theorem body_up {e0 tg it : Expr} {gs : List Comprehension} {ifs : List Expr} {sc : Scope} {ps : Pos} {d : Nat} {Y : Cx} {a : Addr} {wi : TI} {g : TG} {tt : TT} {B : TB} {C : List V → Prop} {Z : List V → Prop → Prop} {body : Value → Sem PySem.Fin} (A : AccOk Y a) (hx : Y.xe = fun _ _ => False) (hs : ∀ x, foldedSetIterable it Y.env x = pure x)
  (ht : ∀ itv, compTurn (.ListComp e0 gs sc ps) (d + 1) itv (.ref a) Y.env = turnB (.ListComp e0 gs sc ps) (d + 1) tg it ifs (body itv) itv (.ref a) Y.env)
  (hst : ∀ {R : Result → Shared → Prop} {s : Shared} {j : Value}, codeAny (model Y.prog Y.w) Y.A (.compLoop (.ListComp e0 gs sc ps) (d + 1) j (.ref a) Y.env) R s → wpAny (model Y.prog Y.w) Y.A (pyIter j) (fun j' s' => codeAny (model Y.prog Y.w) Y.A (.compLoop (.ListComp e0 gs sc ps) (d + 1) j' (.ref a) Y.env) R s') (notedBy (model Y.prog Y.w) Y.A Y.env fun x s' => R (.error x) s') s → codeAny (model Y.prog Y.w) Y.A (.compStart (.ListComp e0 gs sc ps) (d + 1) j (.ref a) Y.env) R s)
  (hi : PI Y tg it wi) (hg : PG Y tg g) (htt : PTs Y ifs tt) (hb : BodyOk Y a (.ListComp e0 gs sc ps) (d + 1) body C B) (hZ : ∀ zs p, Z zs p → C zs ∧ p) : BodyOk Y a (.ListComp e0 gs sc ps) d (fun jt => bodyU (.ListComp e0 gs sc ps) d it jt (.ref a) Y.env) (fun _ => True) (bUp Z wi g tt B) := by
 intro jt0 PB σ ys H s N P hPB gr _ h back
 obtain ⟨its, k, ee, v0⟩ := gr.at'
 have I0 := gr.pin A ee
 have base := hi _ s σ H _ I0 h
 rw [hx] at base
 refine bodyU_ok hs (thn base fun v9 s9 h9 => thn h9 fun itv2 s10 h10 => ?_)
 obtain ⟨jt, fp, tn, J, H10, e10, I10, T, st10, f10, W, ⟨m2, w2⟩, turn⟩ := h10
 subst e10
 have g10 := Inv.grown I10 gr.len v0
 have ne2 : ∀ b ∈ fp, b ≠ a ∧ ∀ p ∈ PB, p.1 ≠ b := fun b hb => by
  obtain ⟨_, _, _, _, _, f5⟩ := f10 b hb
  exact ⟨fun z => f5 (a, lobj its k) (List.mem_append_right _ List.mem_cons_self) z.symm, fun p hp => f5 p (List.mem_append_right _ (List.mem_cons_of_mem _ hp))⟩
 have fpY : ∀ {o : Obj} {H' : Hp}, (∀ b ∈ fp, H' b = none) → ∀ b ∈ fp, FpOk Y ((a, o) :: PB) H' b := fun {o H'} hn b hb => by
  obtain ⟨_, f1, f2', f3, f4, _⟩ := f10 b hb
  refine ⟨hn b hb, f1, f2', f3, f4, fun p hp e => ?_⟩
  rw [A.pn, List.nil_append] at hp
  rcases List.mem_cons.mp hp with rfl | hp
  ·exact (ne2 b hb).1 e.symm
  ·exact (ne2 b hb).2 p hp e
 have loop : codeAny (model Y.prog Y.w) Y.A (.compLoop (.ListComp e0 gs sc ps) (d + 1) (.ref jt) (.ref a) Y.env) (fun r s₆ => r = .ok .next ∧ P s₆) s10 :=
  loop_ok A hPB ht hx hg htt hb hZ T (fun b hb => (ne2 b hb).1) fpY st10 g10 (fun b hb => (f10 b hb).1) w2 turn fun zs H' s' G n => ⟨rfl, back zs H' s' G n⟩
 exact hst loop (T.self _ 0 _ _ _ st10 loop)
theorem comp_gen {X : Cx} {tg iter e0 : Expr} {gs : List Comprehension} {ifs : List Expr} {scope : Scope} {pos pos' : Pos} {wi : TI} {g : TG} {tt : TT} {Bt : TB} {Cd : List V → Prop} (Z : List V → Prop → Prop) {N' : List Str} {cap : List (Option Nat)} {use : Option (Value → Sem Unit)} {Q' : Value → Shared → Prop} {body : Value → Value → Env → Sem PySem.Fin}
  {pins : List (Addr × Obj)} {s : Shared} {σ : St} {H : Hp} {Q : List V → Hp → Prop}
  (hc : X.calm = true) (hi : PI X tg iter wi) (B : BlockScope X.env.scope X.N scope N' cap) (hg : ∀ s H ex C, PG (blockCx X N' scope s H ex C) tg g) (ht : ∀ s H ex C, PTs (blockCx X N' scope s H ex C) ifs tt)
  (htn : ∀ itv acc env, compTurn (.ListComp e0 (⟨tg, iter, ifs, 0⟩ :: gs) scope pos) 0 itv acc env = turnB (.ListComp e0 (⟨tg, iter, ifs, 0⟩ :: gs) scope pos) 0 tg iter ifs (body itv acc env) itv acc env)
  (hbd : ∀ s H ex C a, AccOk (blockCx X N' scope s H ex C) a → BodyOk (blockCx X N' scope s H ex C) a (.ListComp e0 (⟨tg, iter, ifs, 0⟩ :: gs) scope pos) 0 (fun itv => body itv (.ref a) (blockCx X N' scope s H ex C).env) Cd Bt) (hZ : ∀ zs p, Z zs p → Cd zs ∧ p)
  (hs : ∀ x, foldedSetIterable iter X.env x = pure x) (I : Inv X pins σ H s)
  (h : wi σ H fun J H1 => ∃ W : Nat → Nat → List V → Hp → Prop, (∃ m, W 0 m [] H1) ∧ ∀ i m ys H, W i m ys H → (J.stop i H ∧ Q ys H) ∨ (J.go i H ∧ Z ys (∃ N : List V → Hp → Prop, (∀ ys' H', N ys' H' → ∃ m', m' < m ∧ W (i + 1) m' ys' H') ∧ ∀ x H', J.yld i H x H' → g x (capOf cap σ) H' fun σ2 H2 => Keep (capOf cap σ) σ2 ∧ tt σ2 H2 fun b H3 => br b (Bt σ2 ys H3 N) (N ys H3))))
  (fin : ∀ (acc C : Addr) (H : Hp) (ys : List V) (s' : Shared), H acc = none → Inv X pins σ (upd H acc (.lst ys)) s' → Left X pins C (upd H acc (.lst ys)) s' → Q ys H → compPost (model X.prog X.w) X.A X.xe use Q' (.ref acc) C (.ok .next) s') :
  wpAny (model X.prog X.w) X.A (comprehension (.ListComp e0 (⟨tg, iter, ifs, 0⟩ :: gs) scope pos) scope X.env pos' (newList []) false (eval iter X.env) use) Q' X.xe s := by
 have hclos : closureFor scope X.env = pure (clo X.env.cells scope.names []) := closureFor_eq fun y hy hf => I.ok.has y.1 (B.free y hy hf)
 refine wpAny_comprehension_free (cl := clo X.env.cells scope.names []) rfl hs hclos B.kind B.names (thn (hi pins s σ H _ I h) fun v s1 h1 => thn h1 fun itv s2 h2 => ?_)
 obtain ⟨it, fp, tn, J, H2, e, I2, T, st2, f2, W, ⟨m0, w0⟩, turn⟩ := h2
 subst e
 refine wpAny_newObj_type (newBlock ?_)
 dsimp only
 generalize hH3 : s2.heap.push { cls := .type "list", dict := none, data := .seq ([] : List Value).toArray } = h3
 have hsz3 : h3.objs.size = s2.heap.objs.size + 1 := by rw [← hH3]; exact Heap.size_push ..
 have hk3 : ∀ b o, s2.heap.get? b = some o → h3.get? b = some o := fun b o e => by rw [← hH3]; exact Heap.get?_push_of_some _ e
 have hacc3 : h3.get? s2.heap.objs.size = some { cls := .type "list", data := .seq ([] : List Value).toArray } := by rw [← hH3]; exact Heap.get?_push_size _ rfl
 have hlt : ∀ b ∈ fp, b < s2.heap.objs.size := fun b hb => let ⟨o, e, _⟩ := T.obj _ _ st2 b hb; Heap.lt_size e
 have I4 := block_start I2 B f2 hlt hk3 (by rw [hsz3]; exact Nat.le_succ _)
 have acc4 : (pushCells (h3.push { cls := .type "dict", data := .dict #[] }) scope.names).get? s2.heap.objs.size = some { cls := .type "list", data := .seq ([] : List Value).toArray } := pushCells_keeps _ _ _ _ (Heap.get?_push_of_some _ hacc3)
 have st4 : tn 0 (pushCells (h3.push { cls := .type "dict", data := .dict #[] }) scope.names) := T.keep _ _ _ st2 fun b _ o e => pushCells_keeps _ _ _ _ (Heap.get?_push_of_some _ (hk3 b o e))
 have haC : s2.heap.objs.size ≠ h3.objs.size := by rw [hsz3]; exact Nat.ne_of_lt (Nat.lt_succ_self _)
 have haN : s2.heap.objs.size ∉ frs X.stack := fun z => by
  rcases List.mem_cons.mp (I2.stkSub _ z) with q | q
  ·exact absurd I2.lt (by rw [← q]; exact Nat.lt_irrefl _)
  ·exact I2.nofs (Nat.le_refl _) q
 have okY := I4.ok
 have fpY : ∀ {pins' : List (Addr × Obj)} {H' : Hp}, (∀ b ∈ fp, H' b = none) → (∀ p ∈ pins', p.1 = s2.heap.objs.size) → ∀ b ∈ fp, FpOk (blockCx X N' scope s2 H2 fp h3.objs.size) pins' H' b := fun {pins' H'} hn hp b hb =>
  ⟨hn b hb, (okY.exf b hb).1, okY.exfs b hb, .inl hb, (okY.exf b hb).2, fun p z e => by
   have z' : p ∈ pins' := z
   have := hlt b hb
   rw [← e, hp p z'] at this
   exact Nat.lt_irrefl _ this⟩
 have cellNe : ∀ x c, (blockCx X N' scope s2 H2 fp h3.objs.size).env.cells.lookup x = some c → c ≠ s2.heap.objs.size := fun x c ec z => by
  rcases from_look scope.names (h3.objs.size + 1) _ ec with q' | q'
  ·rw [z, hsz3] at q'
   exact absurd q' (by omega)
  ·have ec' : X.env.cells.lookup x = some c := (clo_look _ _ q').elim id fun z => nomatch z
   obtain ⟨_, q''⟩ := I2.cell x c ec'
   have := q''.lt
   rw [z] at this
   exact Nat.lt_irrefl _ this
 have loop : ∀ s4 : Shared, s4 = { s2 with heap := pushCells (h3.push { cls := .type "dict", data := .dict #[] }) scope.names } →
   codeAny (model X.prog X.w) X.A (.compLoop (.ListComp e0 (⟨tg, iter, ifs, 0⟩ :: gs) scope pos) 0 (.ref it) (.ref s2.heap.objs.size) (blockEnv scope X.env h3.objs.size)) (compPost (model X.prog X.w) X.A X.xe use Q' (.ref s2.heap.objs.size) h3.objs.size) s4 := by
  rintro s4 rfl
  have A0 : AccOk (blockCx X N' scope s2 H2 fp h3.objs.size) s2.heap.objs.size := ⟨haC, haN, .inr (Nat.le_refl _), cellNe, rfl, hc⟩
  refine loop_ok (Y := blockCx X N' scope s2 H2 fp h3.objs.size) (PB := []) (W := W) A0 (fun p hp => absurd hp (by simp)) (fun _ => htn _ _ _) rfl (hg _ _ _ _) (ht _ _ _ _) (hbd _ _ _ _ _ A0) hZ T (fun b hb z => absurd (hlt b hb) (by rw [z]; exact Nat.lt_irrefl _))
   (fun {o H'} hn b hb => fpY hn (fun p hp => by rw [List.mem_singleton.mp hp]) b hb) st4 ⟨I4, I2.hok.fresh (Nat.le_refl _), Nat.zero_le _, [], 0, acc4, .nil⟩ (fun b hb => (f2 b hb).1) w0 turn fun ys H5 s6 G q => ?_
  obtain ⟨its, k, e6, v5⟩ := G.at'
  have fa5 := G.no
  have z5 := G.len
  have I6 := G.inv
  have nacc : ∀ b u, H5 b = some u → b ≠ s2.heap.objs.size := fun b u q z => by rw [z, fa5] at q; cases q
  have un : Un (frs X.stack) fp H2 (upd H5 s2.heap.objs.size (.lst ys)) s2.heap s6.heap := by
   have u := I6.base
   refine ⟨u.keep, u.slot, fun b o q n hx => ?_, u.there, fun b xs q => ?_, fun b o xs q => ?_, fun b ps q => ?_⟩
   ·rw [upd_ne (Nat.ne_of_lt (Heap.lt_size q))]
    exact u.free b o q n hx
   ·have z := u.tups b xs q
    rw [upd_ne (nacc b _ z)]; exact z
   ·have z := u.frzs b o xs q
    rw [upd_ne (nacc b _ z)]; exact z
   ·obtain ⟨more, z⟩ := u.tbls b ps q
    exact ⟨more, by rw [upd_ne (nacc b _ z)]; exact z⟩
  have hok : HOk X.prog X.w (upd H5 s2.heap.objs.size (.lst ys)) s6.heap := fun b u q => by
   by_cases hb : b = s2.heap.objs.size
   ·subst hb
    rw [upd_same] at q; cases q
    exact ⟨z5, its, k, v5, e6⟩
   ·rw [upd_ne hb] at q
    have o6 : ObjOk X.prog X.w H5 s6.heap b u := I6.hok b u q
    exact o6.stay (fun _ _ _ e => e) (fun c z => by rw [upd_ne (nacc c _ z)]; exact z) fun c xs z => by rw [upd_ne (nacc c _ z)]; exact z
  have IX : Inv X pins σ (upd H5 s2.heap.objs.size (.lst ys)) s6 := I2.call' (show s6.os = s2.os from I6.os) un hok I6.bare fun b hb => let f := f2 b hb; ⟨f.2.2.2.1, f.2.1, f.2.2.2.2.1, f.2.2.2.2.2⟩
  have hCs : s2.heap.objs.size ≤ h3.objs.size := by rw [hsz3]; exact Nat.le_succ _
  refine fin _ _ H5 ys s6 fa5 IX ⟨let ⟨m, hn, _⟩ := I6.loc; ⟨m, hn⟩, ?_, ?_, Nat.le_trans I2.sz hCs, fun x c ec z => ?_, fun p hp z => ?_⟩ q
  ·rw [upd_ne (Ne.symm haC)]; exact I6.free
  ·exact Nat.ne_of_gt (Nat.lt_of_lt_of_le I2.lt hCs)
  ·obtain ⟨_, q⟩ := I2.cell x c ec
   have := q.lt
   rw [z] at this
   exact absurd (Nat.lt_of_lt_of_le this hCs) (Nat.lt_irrefl _)
  ·have := Heap.lt_size (I2.pin p hp).1
   rw [z] at this
   exact absurd (Nat.lt_of_lt_of_le this hCs) (Nat.lt_irrefl _)
 exact codeAny_compStart_list (loop _ rfl) (T.self _ 0 _ _ _ st4 (loop _ rfl))
theorem comp_core {X : Cx} {tg iter elt : Expr} {ifs : List Expr} {scope : Scope} {pos pos' : Pos} {wi : TI} {g : TG} {tt : TT} {te : TE} {N' : List Str} {cap : List (Option Nat)} {use : Option (Value → Sem Unit)} {Q' : Value → Shared → Prop}
  {pins : List (Addr × Obj)} {s : Shared} {σ : St} {H : Hp} {Q : List V → Hp → Prop}
  (hc : X.calm = true) (hi : PI X tg iter wi) (B : BlockScope X.env.scope X.N scope N' cap) (hg : ∀ s H ex C, PG (blockCx X N' scope s H ex C) tg g) (ht : ∀ s H ex C, PTs (blockCx X N' scope s H ex C) ifs tt) (he : ∀ s H ex C, PE (blockCx X N' scope s H ex C) elt te)
  (hs : ∀ x, foldedSetIterable iter X.env x = pure x) (I : Inv X pins σ H s) (h : tComp wi cap g tt te σ H Q)
  (fin : ∀ (acc C : Addr) (H : Hp) (ys : List V) (s' : Shared), H acc = none → Inv X pins σ (upd H acc (.lst ys)) s' → Left X pins C (upd H acc (.lst ys)) s' → Q ys H → compPost (model X.prog X.w) X.A X.xe use Q' (.ref acc) C (.ok .next) s') :
  wpAny (model X.prog X.w) X.A (comprehension (.ListComp elt [⟨tg, iter, ifs, 0⟩] scope pos) scope X.env pos' (newList []) false (eval iter X.env) use) Q' X.xe s :=
 comp_gen zLt (body := fun itv acc env => bodyL (.ListComp elt [⟨tg, iter, ifs, 0⟩] scope pos) 0 elt itv acc env) (Bt := bLast te) hc hi B hg ht (fun _ _ _ => rfl) (fun s H ex C a A => body_last A rfl (he s H ex C)) (fun _ _ z => z) hs I h fin
def tCompE (wi : TI) (cap : List (Option Nat)) (g : TG) (tt : TT) (te : TE) : TE := fun σ H Q => tComp wi cap g tt te σ H fun ys H' => ∀ p, H' p = none → Q (.ref p) (upd H' p (.lst ys))
theorem pe_comp {X : Cx} {tg iter elt : Expr} {ifs : List Expr} {scope : Scope} {pos : Pos} {wi : TI} {g : TG} {tt : TT} {te : TE} (N' : List Str) (cap : List (Option Nat))
  (hc : X.calm = true) (hi : PI X tg iter wi) (B : BlockScope X.env.scope X.N scope N' cap) (hg : ∀ s H ex C, PG (blockCx X N' scope s H ex C) tg g) (ht : ∀ s H ex C, PTs (blockCx X N' scope s H ex C) ifs tt) (he : ∀ s H ex C, PE (blockCx X N' scope s H ex C) elt te)
  (hs : ∀ x, foldedSetIterable iter X.env x = pure x := by intro _; rfl) : PE X (.ListComp elt [⟨tg, iter, ifs, 0⟩] scope pos) (tCompE wi cap g tt te) := by
 intro pins s σ H Q I h
 rw [eval_ListComp]
 refine comp_core (use := none) hc hi B hg ht he hs I h fun acc C H ys s' hn I' L q => ?_
 obtain ⟨m, hm⟩ := L.ns
 refine ⟨m, hm, fun h' hsb => ⟨.ref acc, _, I'.turned (t' := s'.toks) (it := C) (fun b o hb e => hsb.extBut b o hb e) L.free L.loc (.inr L.sz) L.cell L.pin, rfl, q acc hn⟩⟩
def tCompS (i : Nat) (wi : TI) (cap : List (Option Nat)) (g : TG) (tt : TT) (te : TE) : TS := fun D σ H => tComp wi cap g tt te σ H fun ys H' => ∀ p, H' p = none → D.nx (σ.set i (some (.ref p))) (upd H' p (.lst ys))
theorem ps_setComp {X : Cx} {i : Nat} {y : Str} {tg iter elt : Expr} {ifs : List Expr} {scope : Scope} {pos pos' pos'' : Pos} {wi : TI} {g : TG} {tt : TT} {te : TE} (N' : List Str) (cap : List (Option Nat)) (hN : X.N.Nodup) (hin : X.N[i]? = some y) (hy : Loc X.env.scope y)
  (hc : X.calm = true) (hi : PI X tg iter wi) (B : BlockScope X.env.scope X.N scope N' cap) (hg : ∀ s H ex C, PG (blockCx X N' scope s H ex C) tg g) (ht : ∀ s H ex C, PTs (blockCx X N' scope s H ex C) ifs tt) (he : ∀ s H ex C, PE (blockCx X N' scope s H ex C) elt te)
  (hsw : swapsWith (.ListComp elt [⟨tg, iter, ifs, 0⟩] scope pos) (some (.Name y pos')) pos''.line X.env = pure true := by rfl)
  (hf : X.fn y = true ∨ X.env.scope.names.lookup y = some .local := by first | exact .inl rfl | exact .inr rfl | assumption)
  (hs : ∀ x, foldedSetIterable iter X.env x = pure x := by intro _; rfl) : PS X (.Assign [.Name y pos'] (.ListComp elt [⟨tg, iter, ifs, 0⟩] scope pos) pos'') (tCompS i wi cap g tt te) := by
 intro pins s σ H D I h
 rw [exec_Assign_Name_used _ _ _ _ hsw]
 refine wpAny_bind (wpAny_standAt (wpAny_bind ?_))
 show wpAny _ X.A (do let _ ← comprehension (.ListComp elt [⟨tg, iter, ifs, 0⟩] scope pos) scope X.env _ (newList []) false (eval iter X.env) (some (assign (.Name y pos') X.env))) _ _ s
 refine wpAny_bind (wpAny_mono (comp_core (use := some (assign (.Name y pos') X.env)) (Q' := fun _ s' => SP X pins D .next s') hc hi B hg ht he hs I h fun acc C H ys s' hn I' L q => ?_) (fun _ s' hq => wpAny_pure (wpAny_pure hq)) fun _ _ e => e)
 obtain ⟨m, hm⟩ := L.ns
 refine wpAny_assign_Name (store_ok2 I' hN hin hy (show RelV (.ref acc) (.ref acc) from rfl) (fun s'' I'' ⟨a, sb, ha⟩ => ?_) hf)
 have hCa : C ≠ a := by
  rcases ha with e | e
  ·rw [e]; exact L.loc
  ·exact fun z => L.cell _ _ e z.symm
 refine ⟨m, hm.sameBut sb hCa, fun h' hsb => ?_⟩
 exact ⟨_, _, I''.turned (t' := s''.toks) (it := C) (fun b o hb e => hsb.extBut b o hb e) L.free L.loc (.inr L.sz) L.cell L.pin, q acc hn⟩
def Walk (J : It) (cap : List (Option Nat)) (g : TG) (tt : TT) (te : TE) (σ : St) (Q : List V → Hp → Prop) (H1 : Hp) : Prop :=
 ∃ W : Nat → Nat → List V → Hp → Prop, (∃ m, W 0 m [] H1) ∧ ∀ i m ys H, W i m ys H →
  (J.stop i H ∧ Q ys H) ∨
  (J.go i H ∧ ys.length < sizeLine ∧ ∃ N : List V → Hp → Prop, (∀ ys' H', N ys' H' → ∃ m', m' < m ∧ W (i + 1) m' ys' H') ∧ ∀ x H', J.yld i H x H' → g x (capOf cap σ) H' fun σ2 H2 => Keep (capOf cap σ) σ2 ∧ tt σ2 H2 fun b H3 =>
   br b (te σ2 H3 fun y H4 => N (ys ++ [y]) H4) (N ys H3))
theorem walk_n {J : It} {cap : List (Option Nat)} {g : TG} {tt : TT} {te : TE} {σ : St} {Q : List V → Hp → Prop} {H : Hp} (n : Nat) (Pv : Nat → List V → Hp → Prop) (hn : n ≤ 100000) (h0 : Pv 0 [] H) (hz : ∀ i ys H, Pv i ys H → ys.length ≤ i)
  (hs : ∀ i ys H, i < n → Pv i ys H → J.go i H ∧ ∀ x H', J.yld i H x H' → g x (capOf cap σ) H' fun σ2 H2 => Keep (capOf cap σ) σ2 ∧ tt σ2 H2 fun b H3 => br b (te σ2 H3 fun y H4 => Pv (i + 1) (ys ++ [y]) H4) (Pv (i + 1) ys H3))
  (hd : ∀ ys H, Pv n ys H → J.stop n H ∧ Q ys H) : Walk J cap g tt te σ Q H := by
 refine ⟨fun i m ys H => m = n - i ∧ i ≤ n ∧ Pv i ys H, ⟨n, by simp, Nat.zero_le _, h0⟩, ?_⟩
 rintro i m ys H ⟨rfl, hi, p⟩
 by_cases hlt : i < n
 ·obtain ⟨a, b⟩ := hs i ys H hlt p
  refine .inr ⟨a, ?_, Pv (i + 1), fun ys' H' p' => ⟨n - (i + 1), by omega, rfl, hlt, p'⟩, b⟩
  have := hz i ys H p
  have : (100000 : Nat) < sizeLine := by decide
  omega
 ·have e : i = n := by omega
  subst e
  exact .inl (hd ys H p)
theorem walk_tup {K : PySem.W.Frag} {a : Addr} {xs : List V} {cap : List (Option Nat)} {g : TG} {tt : TT} {te : TE} {σ : St} {Q : List V → Hp → Prop} {H : Hp} (Pv : Nat → List V → Hp → Prop) (hn : xs.length ≤ 100000) (h0 : Pv 0 [] H) (hz : ∀ i ys H, Pv i ys H → ys.length ≤ i)
  (hl : ∀ i ys H, i ≤ xs.length → Pv i ys H → SqT K H a xs)
  (hs : ∀ i x ys H, xs[i]? = some x → Pv i ys H → g x (capOf cap σ) H fun σ2 H2 => Keep (capOf cap σ) σ2 ∧ tt σ2 H2 fun b H3 => br b (te σ2 H3 fun y H4 => Pv (i + 1) (ys ++ [y]) H4) (Pv (i + 1) ys H3))
  (hd : ∀ ys H, Pv xs.length ys H → Q ys H) : Walk (Itt K a) cap g tt te σ Q H :=
 walk_n xs.length Pv hn h0 hz (fun i ys H hi p => ⟨⟨xs, xs[i], hl i ys H (Nat.le_of_lt hi) p, by simp [hi]⟩, fun x H' ⟨e, y⟩ => by subst e; exact hs i x ys _ (y xs (hl i ys _ (Nat.le_of_lt hi) p)) p⟩)
  fun ys H p => ⟨⟨xs, hl _ ys H (Nat.le_refl _) p, Nat.le_refl _⟩, hd ys H p⟩
theorem walk_lst {K : PySem.W.Frag} {a : Addr} {xs : List V} {cap : List (Option Nat)} {g : TG} {tt : TT} {te : TE} {σ : St} {Q : List V → Hp → Prop} {H : Hp} (Pv : Nat → List V → Hp → Prop) (hn : xs.length ≤ 100000) (h0 : Pv 0 [] H) (hz : ∀ i ys H, Pv i ys H → ys.length ≤ i)
  (hl : ∀ i ys H, i ≤ xs.length → Pv i ys H → SqL K H a xs)
  (hs : ∀ i x ys H, xs[i]? = some x → Pv i ys H → g x (capOf cap σ) H fun σ2 H2 => Keep (capOf cap σ) σ2 ∧ tt σ2 H2 fun b H3 => br b (te σ2 H3 fun y H4 => Pv (i + 1) (ys ++ [y]) H4) (Pv (i + 1) ys H3))
  (hd : ∀ ys H, Pv xs.length ys H → Q ys H) : Walk (Itl K a) cap g tt te σ Q H :=
 walk_n xs.length Pv hn h0 hz (fun i ys H hi p => ⟨⟨xs, xs[i], hl i ys H (Nat.le_of_lt hi) p, by simp [hi]⟩, fun x H' ⟨e, y⟩ => by subst e; exact hs i x ys _ (y xs (hl i ys _ (Nat.le_of_lt hi) p)) p⟩)
  fun ys H p => ⟨⟨xs, hl _ ys H (Nat.le_refl _) p, Nat.le_refl _⟩, hd ys H p⟩
theorem walk_range {lo : Int} {n : Nat} {cap : List (Option Nat)} {g : TG} {tt : TT} {te : TE} {σ : St} {Q : List V → Hp → Prop} {H : Hp} (Pv : Nat → List V → Hp → Prop) (hn : n ≤ 100000) (h0 : Pv 0 [] H) (hz : ∀ i ys H, Pv i ys H → ys.length ≤ i)
  (hs : ∀ i ys H, i < n → Pv i ys H → g (.int (lo + i)) (capOf cap σ) H fun σ2 H2 => Keep (capOf cap σ) σ2 ∧ tt σ2 H2 fun b H3 => br b (te σ2 H3 fun y H4 => Pv (i + 1) (ys ++ [y]) H4) (Pv (i + 1) ys H3))
  (hd : ∀ ys H, Pv n ys H → Q ys H) : Walk (Itr lo n) cap g tt te σ Q H :=
 walk_n n Pv hn h0 hz (fun i ys H hi p => ⟨hi, fun x H' ⟨e, y⟩ => by subst e y; exact hs i ys _ hi p⟩) fun ys H p => ⟨Nat.le_refl _, hd ys H p⟩
end L2

end

section
namespace L2
open PySem PySem.Spec PyProof.Rows
open AutoSeq1 (wpAny_loadPart')
section
variable {prog : Program} {w : World} {A : Around} {E : Value → Shared → Prop} {s : Shared}
theorem nextT_item {it t : Addr} {i : Nat} {items : Array Value} {x : Value} {Q : Value → Shared → Prop} (hit : s.heap.IsTupleIter it t i) (ht : s.heap.IsTuple t items) (hx : items[i]? = some x)
  (hQ : ∀ h', h'.IsTupleIter it t (i + 1) → Heap.SameBut it s.heap h' → Q x { s with heap := h' }) : wpAny (model prog w) A (Builtin.SmallTypes.nextOf (.ref it)) Q E s := by
 obtain ⟨o, ho, hc, hd⟩ := id hit; obtain ⟨ol, hol, _, nl, hdl⟩ := ht; unfold Builtin.SmallTypes.nextOf
 refine wpAny_bind (wpAny_callSpecial?_slot (name := Str.ofString "__next__") hit.typeIs F.slot_tuple_iterator_next (wpAny_call_entry F.slot_tuple_iterator_next hit.typeIs F.entry_tuple_iterator_next ?_ (F.args_tuple_iterator_next_1 _)))
 show wpAny _ _ (field (.ref it) 0 >>= _) _ _ s; refine wpAny_bind (wpAny_field ho hd (x := .ref t) rfl ?_)
 show wpAny _ _ (if (Value.ref t == Value.none) = true then _ else _) _ _ s; rw [if_neg (show ¬ ((Value.ref t == Value.none) = true) from Bool.false_ne_true)]
 show wpAny _ _ (field (.ref it) 1 >>= _) _ _ s; refine wpAny_bind (wpAny_field ho hd (x := .int i 0) rfl ?_)
 show wpAny _ _ (seqItems? (.ref t) >>= _) _ _ s; refine wpAny_bind (wpAny_seqItems hol hdl ?_); simp only [Int.toNat_natCast, hx]
 refine wpAny_bind (wpAny_setField ho hd (by simp) (wpAny_pure ⟨x, rfl, wpAny_pure (hQ _ ?_ (Heap.SameBut.update ..))⟩)); exact ⟨_, Heap.get?_update_self _ ho (Obj.isFreed_of_fields (Obj.data_mapFields hd _)), (Obj.cls_mapFields ..).trans hc, by rw [Obj.data_mapFields hd]; simp [rawInt]⟩
theorem nextT_end {it t : Addr} {i : Nat} {items : Array Value} {Q : Value → Shared → Prop} (hh : A.handled = none) (hit : s.heap.IsTupleIter it t i) (ht : s.heap.IsTuple t items) (hx : items[i]? = none)
  (hE : ∀ h' e, Heap.ExtBut it s.heap h' → (∃ o, h'.get? e = some o ∧ o.cls = .type "StopIteration") → E (.ref e) { s with heap := h' }) : wpAny (model prog w) A (Builtin.SmallTypes.nextOf (.ref it)) Q E s := by
 obtain ⟨o, ho, hc, hd⟩ := id hit; obtain ⟨ol, hol, _, nl, hdl⟩ := ht; unfold Builtin.SmallTypes.nextOf
 refine wpAny_bind (wpAny_callSpecial?_slot (name := Str.ofString "__next__") hit.typeIs F.slot_tuple_iterator_next (wpAny_call_entry F.slot_tuple_iterator_next hit.typeIs F.entry_tuple_iterator_next ?_ (F.args_tuple_iterator_next_1 _)))
 show wpAny _ _ (field (.ref it) 0 >>= _) _ _ s; refine wpAny_bind (wpAny_field ho hd (x := .ref t) rfl ?_)
 show wpAny _ _ (if (Value.ref t == Value.none) = true then _ else _) _ _ s; rw [if_neg (show ¬ ((Value.ref t == Value.none) = true) from Bool.false_ne_true)]
 show wpAny _ _ (field (.ref it) 1 >>= _) _ _ s; refine wpAny_bind (wpAny_field ho hd (x := .int i 0) rfl ?_)
 show wpAny _ _ (seqItems? (.ref t) >>= _) _ _ s; refine wpAny_bind (wpAny_seqItems hol hdl ?_); simp only [Int.toNat_natCast, hx]
 refine wpAny_bind (wpAny_rule (wpAny_bind (wpAny_setField ho hd (by simp) ?_))); show wpAny _ _ (newExc (.type "StopIteration") [] >>= _) _ _ _
 refine wpAny_bind ?_; simp only [newExc, newTuple]; refine wpAny_bind (wpAny_newObj_type ?_ (by size_fits))
 refine wpAny_bind (m := firstArgMember _ _) (wpAny_of_eq (a := Value.none) (by first | rfl | (simp only [firstArgMember]; rfl)) ?_); refine wpAny_newObj_type ?_ (by size_fits); simp only [raiseNew]
 refine wpAny_bind (wpAny_handled ?_); first | rw [show A.in1.handled = none from hh] | rw [hh]
 refine wpAny_bind (wpAny_pure (wpAny_throw ?_)); exact hE _ _ (((Heap.SameBut.update ..).extBut.push _).push _) ⟨_, Heap.get?_push_size _ rfl, rfl⟩
end
structure SeqK (P : Program) (w : World) (K : PySem.W.Frag) where
 Sq : Hp → Addr → List V → Prop
 It : Heap → Addr → Addr → Nat → Prop
 Is : Heap → Addr → Array Value → Prop
 obj : Addr → Obj
 get : ∀ {X : Cx} {pins : List (Addr × Obj)} {σ : St} {H : Hp} {s : Shared} {a : Addr} {xs : List V}, X.K = K → Inv X pins σ H s → Sq H a xs → ∃ its : List Value, Vals xs its ∧ Is s.heap a its.toArray ∧ xs.length ≤ sizeLine
 inj : ∀ {X : Cx} {pins : List (Addr × Obj)} {σ : St} {H : Hp} {s : Shared} {a : Addr} {xs ys : List V}, X.K = K → Inv X pins σ H s → Sq H a xs → Sq H a ys → xs = ys
 draws : ∀ (A : Around), A.handled = none → ∀ (it l : Addr), l ≠ it → ∀ items : Array Value, Draws P w A it [it, l] items.size (fun i v => items[i]? = some v) (fun i h => It h it l i ∧ Is h l items)
 ito : ∀ {h : Heap} {it l : Addr} {i : Nat}, It h it l i → ∃ o, h.get? it = some o ∧ ∀ v, o.data ≠ .cell v
 itk : ∀ {h h' : Heap} {it l : Addr} {i : Nat}, It h it l i → (∀ o, h.get? it = some o → h'.get? it = some o) → It h' it l i
 isk : ∀ {h h' : Heap} {l : Addr} {items : Array Value}, Is h l items → (∀ o, h.get? l = some o → h'.get? l = some o) → Is h' l items
 iso : ∀ {h : Heap} {l : Addr} {items : Array Value}, Is h l items → ∃ o, h.get? l = some o
 ok : Prop
 itn : ok → ∀ (h : Heap) (l : Addr), It (h.push (obj l)) h.objs.size l 0
def seqL (P : Program) (w : World) (K : PySem.W.Frag) : SeqK P w K where
 Sq := fun H a xs => SqL K H a xs
 It := fun h it l i => h.IsListIter it l i
 Is := fun h l items => h.IsList l items
 obj := fun l => { cls := .type "list_iterator", data := .fields #[.ref l, .int 0 0] }
 get := fun {X pins σ H s a xs} hK I q => by subst hK; obtain ⟨its, r, p, z⟩ := I.list q; exact ⟨its, r, p.isList, z⟩
 inj := fun {X pins σ H s a xs ys} hK I q q' => by subst hK; exact I.list_inj q q'
 draws := fun A hh it l hne items => Draws.list hh it l hne items
 ito := fun {h it l i} ⟨o, e, c, d⟩ => ⟨o, e, fun v z => by rw [d] at z; cases z⟩
 itk := fun {h h' it l i} x k => x.at k
 isk := fun {h h' l items} x k => x.at k
 iso := fun {h l items} ⟨o, e, _⟩ => ⟨o, e⟩
 ok := True
 itn := fun _ h l => ⟨_, Heap.get?_push_size _ rfl, rfl, rfl⟩
def seqT (P : Program) (w : World) (K : PySem.W.Frag) : SeqK P w K where
  Sq := fun H a xs => SqT K H a xs
  It := fun h it l i => h.IsTupleIter it l i
  Is := fun h l items => h.IsTuple l items
  obj := fun l => { cls := .type "tuple_iterator", data := .fields #[.ref l, .int 0 0] }
  get := fun {X pins σ H s a xs} hK I q => by subst hK; obtain ⟨its, r, p, z⟩ := I.tuple q; exact ⟨its, r, p, z⟩
  inj := fun {X pins σ H s a xs ys} hK I q q' => by subst hK; exact I.tuple_inj q q'
  draws := fun A hh it l hne items =>
    { live := fun _ _ st => let ⟨o, ho, _⟩ := st.1; ⟨o, ho⟩
      frame := fun _ _ _ st hk => ⟨let ⟨o, e, r⟩ := st.1; ⟨o, hk it (by simp) o e, r⟩, let ⟨o, e, r⟩ := st.2; ⟨o, hk l (by simp) o e, r⟩⟩
      item := fun i s Q E hi st hQ => nextT_item st.1 st.2 (x := items[i]) (by simp [hi]) fun h' hit' hs' => hQ _ h' s.toks (by simp [hi]) ⟨hit', st.2.extBut hs'.extBut hne⟩ hs'
      done := fun s Q E st hE => nextT_end hh st.1 st.2 (by simp) hE }
  ito := fun {h it l i} ⟨o, e, c, d⟩ => ⟨o, e, fun v z => by rw [d] at z; cases z⟩
  itk := fun {h h' it l i} ⟨o, e, r⟩ k => ⟨o, k o e, r⟩
  isk := fun {h h' l items} ⟨o, e, r⟩ k => ⟨o, k o e, r⟩
  iso := fun {h l items} ⟨o, e, _⟩ => ⟨o, e⟩
  ok := True
  itn := fun _ h l => ⟨_, Heap.get?_push_size _ rfl, rfl, rfl⟩
end L2

end

section
namespace L2
open PySem PySem.Spec PyProof.Rows
open AutoSeq1 (wpAny_loadPart')
theorem Inv.yielded {X : Cx} {pins : List (Addr × Obj)} {σ : St} {H : Hp} {s : Shared} {wr : List Addr} {h' : Heap} {tk : Nat} {T : Addr} {vs : List V} {us : List Value} (I : Inv X pins σ H s) (hf : ∀ b ∈ wr, FpOk X pins H b)
  (k : ∀ b o, b ∉ wr → s.heap.get? b = some o → h'.get? b = some o) (hT : s.heap.objs.size ≤ T) (ht : IsTup h' T us.toArray) (rv : Vals vs us) (hz : vs.length ≤ sizeLine) :
  Inv X pins σ (upd H T (.tup vs)) { s with heap := h', toks := tk } := by
 have hfr : H T = none := I.hok.fresh hT
 have nT : ∀ b u, H b = some u → b ≠ T := fun b u e => ne_of_none e hfr
 have nW : ∀ b u, H b = some u → b ∉ wr := fun b u e z => by have := (hf b z).1; rw [e] at this; cases this
 refine I.step (g' := s.gens) (d' := s.drawn) (ch := wr) (fun b hb => let f := hf b hb; ⟨f.2.2.2.1, f.2.1, f.2.2.2.2.1, f.2.2.2.2.2⟩) (fun b o _ _ hc e _ => k b o hc e) (fun b o _ _ hc e _ => ⟨o.slots, k b o hc e⟩)
  (fun b o hc e n => ?_) (fun b o hc e => ⟨o, k b o hc e⟩) (fun b xs e => by rw [upd_ne (nT b _ e)]; exact e) (fun b o xs e => by rw [upd_ne (nT b _ e)]; exact e) (fun b ps e => ⟨#[], by rw [upd_ne (nT b _ e), e]; simp⟩) (fun m hm => ?_) (fun b u e => ?_) I.bare
 ·rw [upd_ne (Nat.ne_of_lt (Nat.lt_of_lt_of_le (Heap.lt_size e) hT))]; exact n
 ·obtain ⟨o, es, ep, ho, r⟩ := hm
  exact ⟨o, es, ep, k _ o (fun z => (hf _ z).2.1 rfl) ho, r⟩
 ·by_cases hb : b = T
  ·subst hb
   rw [upd_same] at e; cases e
   exact ⟨hz, us, rv, ht⟩
  ·rw [upd_ne hb] at e
   refine (I.hok b u e).stay (fun c v hc q => k c v ?_ q) (fun c q => by rw [upd_ne (nT c _ q)]; exact q) fun c xs q => by rw [upd_ne (nT c _ q)]; exact q
   rcases hc with z | z
   ·rw [z]; exact nW b u e
   ·exact nW c _ z
theorem Inv.ended {X : Cx} {pins : List (Addr × Obj)} {σ : St} {H : Hp} {s : Shared} {wr : List Addr} {h' : Heap} {tk : Nat} (I : Inv X pins σ H s) (hf : ∀ b ∈ wr, FpOk X pins H b)
  (k : ∀ b o, b ∉ wr → s.heap.get? b = some o → h'.get? b = some o) : Inv X pins σ H { s with heap := h', toks := tk } := by
 have nW : ∀ b u, H b = some u → b ∉ wr := fun b u e z => by have := (hf b z).1; rw [e] at this; cases this
 refine I.step (g' := s.gens) (d' := s.drawn) (ch := wr) (fun b hb => let f := hf b hb; ⟨f.2.2.2.1, f.2.1, f.2.2.2.2.1, f.2.2.2.2.2⟩) (fun b o _ _ hc e _ => k b o hc e) (fun b o _ _ hc e _ => ⟨o.slots, k b o hc e⟩)
  (fun b o hc e n => n) (fun b o hc e => ⟨o, k b o hc e⟩) (fun b xs e => e) (fun b o xs e => e) (fun b ps e => ⟨#[], by rw [e]; simp⟩) (fun m hm => ?_) (fun b u e => ?_) I.bare
 ·obtain ⟨o, es, ep, ho, r⟩ := hm
  exact ⟨o, es, ep, k _ o (fun z => (hf _ z).2.1 rfl) ho, r⟩
 ·refine (I.hok b u e).stay (fun c v hc q => k c v ?_ q) (fun c q => q) fun c xs q => q
  rcases hc with z | z
  ·rw [z]; exact nW b u e
  ·exact nW c _ z
def Ite {P : Program} {w : World} {K : PySem.W.Frag} (S : SeqK P w K) (a : Addr) : It :=
 ⟨fun i H => ∃ xs x, S.Sq H a xs ∧ xs[i]? = some x, fun i H v H' => ∃ T, v = .ref T ∧ H T = none ∧ ∀ xs x, S.Sq H a xs → xs[i]? = some x → H' = upd H T (.tup [.int i, x]), fun i H => ∃ xs, S.Sq H a xs ∧ xs.length = i⟩
theorem turn_enum {P : Program} {w : World} {K : PySem.W.Frag} (S : SeqK P w K) {es : List Expr} {k : Nat} {pos : Pos} (a e it : Addr) (hei : e ≠ it) (hai : a ≠ it) (hae : a ≠ e) :
  Turn P w K (.Tuple es k pos) (Ite S a) [e, it] e (fun i h => (∃ old, IsEnum h e it (i : Nat) old) ∧ S.It h it a i) where
 mem := by simp
 obj := fun i h st b hb => by
  obtain ⟨⟨old, he⟩, hi⟩ := st
  rcases List.mem_cons.mp hb with z | hb
  ·rw [z]; exact ⟨_, he, fun v z => by
    have z' : Data.fields _ = Data.cell v := z
    cases z'⟩
  ·rw [List.mem_singleton.mp hb]; exact S.ito hi
 keep := fun i h h' st kk => by
  obtain ⟨⟨old, he⟩, hi⟩ := st
  exact ⟨⟨old, kk e (by simp) _ he⟩, S.itk hi fun o q => kk it (by simp) o q⟩
 item := by
  intro X hP hw hK hc i pins s σ H E I hf st hg
  subst hP hw
  obtain ⟨xs, x, hq, hx⟩ := hg
  obtain ⟨its, rv, is, hz⟩ := S.get hK I hq
  obtain ⟨u, hu, ru⟩ := rv.get hx
  have W := WalksT.enumerateD (S.draws X.A.in1 (I.ok.hd hc) it a hai its.toArray) e hei (by simp [hei, Ne.symm hae]) (by simp)
  have hi : i < its.toArray.size := by have := (List.getElem?_eq_some_iff.mp hu).1; simpa using this
  refine W.item i s _ _ hi ⟨st.1, st.2, is⟩ fun T vals h1 tk hp hT htup hmid hk => ⟨_, rfl, ?_⟩
  obtain ⟨t, y, hy, hv⟩ := hp
  have ey : y = u := by
   have q : its.toArray[i]? = some u := by simpa using hu
   rw [q] at hy; exact (Option.some.inj hy).symm
  subst ey hv
  refine W.go es k pos i T { s with heap := h1, toks := tk } _ _ hmid fun h2 st2 hk2 => ?_
  have kk : ∀ b o, b ∉ [e, it] → s.heap.get? b = some o → h2.get? b = some o := fun b o hb q => hk2 b o hb (hk b o hb q)
  have htup2 : IsTup h2 T [Value.int i t, y].toArray := by
   obtain ⟨o, q, r⟩ := htup
   exact ⟨o, hk2 T o (W.apart i T h1 hmid) q, r⟩
  exact ⟨.ref T, upd H T (.tup [.int i, x]), I.yielded (tk := tk) (fun b hb => hf b hb) kk hT htup2 (.cons ⟨t, rfl⟩ (.cons ru .nil)) (by show 2 ≤ sizeLine; decide), rfl,
   ⟨T, rfl, I.hok.fresh hT, fun ys z hy hz => by
    rw [S.inj hK I hy hq, hx] at hz; cases hz; rfl⟩, ⟨st2.1, st2.2.1⟩, fun b hb => by
    have hbt : b < s.heap.objs.size := by
     rcases List.mem_cons.mp hb with z | hb
     ·rw [z]; obtain ⟨old, q⟩ := st.1; exact Heap.lt_size q
     ·rw [List.mem_singleton.mp hb]; obtain ⟨o, q, _⟩ := S.ito st.2; exact Heap.lt_size q
    rw [upd_ne (Nat.ne_of_lt (Nat.lt_of_lt_of_le hbt hT))]; exact (hf b hb).1⟩
 done := by
  intro X hP hw hK hc i pins s σ H E I hf st hg
  subst hP hw
  obtain ⟨xs, hq, hx⟩ := hg
  obtain ⟨its, rv, is, hz⟩ := S.get hK I hq
  have W := WalksT.enumerateD (S.draws X.A.in1 (I.ok.hd hc) it a hai its.toArray) e hei (by simp [hei, Ne.symm hae]) (by simp)
  have hn : its.toArray.size = i := by have := rv.length; simp; omega
  rw [hn] at W
  exact W.done s _ _ ⟨st.1, st.2, is⟩ fun h' tk hk => ⟨rfl, I.ended (tk := tk) (fun b hb => hf b hb) hk⟩
 self := fun _ _ _ _ _ st h => by
  obtain ⟨⟨old, he⟩, _⟩ := st
  exact wpAny_pyIter_enum he h
theorem meets_enumT (l : Addr) (items : Array Value) :
    Meets (Builtin.«enumerate.__new__» ⟨[.type "enumerate", .ref l], []⟩) (fun _ R s => s.heap.IsTuple l items ∧ R (.ok (.ret (.ref (s.heap.push { cls := .type "tuple_iterator", data := .fields #[.ref l, .int 0 0] }).objs.size)))
        { s with heap := (s.heap.push { cls := .type "tuple_iterator", data := .fields #[.ref l, .int 0 0] }).push { cls := .type "enumerate", data := .fields #[.none, .bool false, .ref s.heap.objs.size, rawInt 0, .none, .none] } }) :=
  .of_wp fun prog w A R s h => by
    obtain ⟨hp, g, d, tk, os⟩ := s; obtain ⟨hl0, h⟩ := h
    obtain ⟨⟨c0, dct, dt, sl⟩, hl, hc0, n, hd0⟩ := id hl0; replace hc0 : c0 = .type "tuple" := hc0; replace hd0 : dt = .seq items n := hd0; subst hc0 hd0
    have hsub := sub_enumerate; have hL : Heap.IsTuple (Shared.heap ⟨hp, g, d, tk, os⟩) l items := ⟨_, hl, rfl, n, rfl⟩
    wp_walk using wpAny_loadPart' hl
    refine wpAny_stack_any fun st => wpAny_pure ?_; split
    · rename_i c _ _ _ _ _; cases (c == Value.type "enumerate")
      · wp_walk using wpAny_loadPart' hl, wpAny_pyIter_tuple hL; exact ⟨_, rfl, h⟩
      · wp_walk using wpAny_loadPart' hl, wpAny_pyIter_tuple hL; exact ⟨_, rfl, h⟩
    · wp_walk using wpAny_loadPart' hl, wpAny_pyIter_tuple hL; exact ⟨_, rfl, h⟩
theorem call_enumT {prog : Program} {w : World} {A : Around} {E : Value → Shared → Prop} {s : Shared} {l : Addr} {items : Array Value} {Q : Value → Shared → Prop} (hL : s.heap.IsTuple l items)
  (h : ∀ h', IsEnum h' (s.heap.objs.size + 1) s.heap.objs.size 0 .none → h'.IsTupleIter s.heap.objs.size l 0 → h'.objs.size = s.heap.objs.size + 2 → (∀ b o, s.heap.get? b = some o → h'.get? b = some o) → Q (.ref (s.heap.objs.size + 1)) { s with heap := h' }) :
  wpAny (model prog w) A (call (.type "enumerate") [.ref l]) Q E s := by
 refine callType_new F.called_enumerate (by decide) (F.typeCall_enumerate_1 _) (F.newCall_enumerate_1 _) (fun obj => F.args_object_init_2 obj _) F.entry_enumerate_new (meets_enumT l items) ⟨hL, ?_⟩
 have hz : (s.heap.push { cls := .type "tuple_iterator", data := .fields #[.ref l, .int 0 0] }).objs.size = s.heap.objs.size + 1 := Heap.size_push ..
 show _ ∧ _; rw [hz]
 have he : IsEnum ((s.heap.push { cls := .type "tuple_iterator", data := .fields #[.ref l, .int 0 0] }).push { cls := .type "enumerate", data := .fields #[.none, .bool false, .ref s.heap.objs.size, rawInt 0, .none, .none] }) (s.heap.objs.size + 1) s.heap.objs.size 0 .none := by
  have := Heap.get?_push_size (s.heap.push { cls := .type "tuple_iterator", data := .fields #[.ref l, .int 0 0] }) (o := { cls := .type "enumerate", data := .fields #[.none, .bool false, .ref s.heap.objs.size, rawInt 0, .none, .none] }) rfl
  rw [hz] at this; exact this
 exact ⟨⟨_, he, rfl⟩, h _ he ⟨_, Heap.get?_push_of_some _ (Heap.get?_push_size _ rfl), rfl, rfl⟩ (by rw [Heap.size_push, hz]) fun b o x => Heap.get?_push_of_some _ (Heap.get?_push_of_some _ x)⟩
def iEnum {P : Program} {w : World} {K : PySem.W.Frag} (S : SeqK P w K) (ta : TA) : TI := fun σ H R => ta σ H fun vs H1 => ∃ a, vs = [.ref a] ∧ (∃ xs, S.Sq H1 a xs) ∧ R (Ite S a) H1
theorem pi_enumT {X : Cx} {es : List Expr} {k : Nat} {p pos pos' : Pos} {a : Expr} {ta : TA} (hg : Gl X "enumerate") (hm : X.mg "enumerate" = none) (ha : PA X [a] ta) (hs : starEach [a] X.env = [(false, eval a X.env)] := by rfl) :
  PI X (.Tuple es k pos') (.Call (.Name "enumerate" p) [a] [] pos) (iEnum (seqT X.prog X.w X.K) ta) := by
 intro pins s σ H R I h
 refine Call_ (ld_blt I hg hm boot_enumerate (PyProof.Rows.callWith_type1 (thn (ha pos pins s σ H _ I h) fun us s1 ⟨vs, H1, I1, r1, q1⟩ => ?_) hs rfl))
 obtain ⟨l, e, ⟨xs, hq⟩, q⟩ := q1
 subst e
 obtain ⟨u, rfl, ru⟩ := r1.one
 cases ru
 obtain ⟨its, rv, is, hz⟩ := I1.tuple hq
 obtain ⟨ol, hol, hol2⟩ := id is
 have hlt := Heap.lt_size hol
 refine call_enumT (items := its.toArray) ⟨ol, hol, hol2⟩ fun h' hE hI hsz hk => ?_
 have I2 : Inv X pins σ H1 { s1 with heap := h' } := I1.kept (t' := s1.toks) hk
 refine wpAny_pyIter_enum hE ⟨s1.heap.objs.size + 1, [s1.heap.objs.size + 1, s1.heap.objs.size], _, _, H1, rfl, I2, turn_enum (seqT X.prog X.w X.K) l (s1.heap.objs.size + 1) s1.heap.objs.size (Nat.succ_ne_self _) (Nat.ne_of_lt hlt) (Nat.ne_of_lt (Nat.lt_succ_of_lt hlt)), ⟨⟨_, hE⟩, hI⟩, fun b hb => ?_, q⟩
 rcases List.mem_cons.mp hb with z | hb
 ·rw [z]; exact I1.fpOk (Nat.le_succ _) (I1.hok.fresh (Nat.le_succ _))
 ·rw [List.mem_singleton.mp hb]; exact I1.fpOk (Nat.le_refl _) (I1.hok.fresh (Nat.le_refl _))
end L2

end

section
namespace L2
open PySem PySem.Spec PyProof.Rows
open AutoSeq1 (wpAny_loadPart')
def Dr {P : Program} {w : World} {K : PySem.W.Frag} (S : SeqK P w K) (it l : Addr) (xs : Array Value) (k : Nat) (h : Heap) : Prop := S.It h it l k ∧ S.Is h l xs
theorem Dr.ext {P : Program} {w : World} {K : PySem.W.Frag} {S : SeqK P w K} {it l b : Addr} {xs : Array Value} {k : Nat} {h h' : Heap} (d : Dr S it l xs k h) (e : Heap.ExtBut b h h') (h1 : it ≠ b) (h2 : l ≠ b) : Dr S it l xs k h' :=
 ⟨S.itk d.1 fun o q => e it o h1 q, S.isk d.2 fun o q => e l o h2 q⟩
abbrev IsZipF (h : Heap) (z TI TO : Addr) (f0 f1 : Value) : Prop := h.get? z = some { cls := .type "zip", dict := none, data := .fields #[f0, f1, .bool false, .ref TI, .ref TO], slots := #[] }
def ZipAny (h : Heap) (z TI TO : Addr) : Prop := ∃ f0 f1, IsZipF h z TI TO f0 f1 ∧ (f0 = .none ∨ ∃ T : Addr, f0 = rawInt T) ∧ (f1 = .bool false ∨ f1 = .bool true)
theorem wpAny_alive {M : Model} {A : Around} {E : Value → Shared → Prop} {s : Shared} {a : Addr} {Q : Option Obj → Shared → Prop} (h : Q (s.heap.get? a) s) : wpAny M A (loadIfAlive a) Q E s := fun _ _ _ => h
theorem own_is {P : Program} {w : World} {A : Around} {E : Value → Shared → Prop} {s : Shared} {z TI TO : Addr} {Q : Bool → Shared → Prop} (hz : ZipAny s.heap z TI TO) (h1 : ∀ f0 f1, IsZipF s.heap z TI TO f0 f1 → Q true s)
  (h2 : ∀ g0, ∀ T : Addr, ∀ f1 f2, IsZipF s.heap z TI TO (rawInt T) f1 → IsZipF g0 z TI TO (rawInt T) f2 → (f2 = .bool false ∨ f2 = .bool true) → Heap.SameBut z s.heap g0 → Q false { s with heap := g0 }) :
  wpAny (model P w) A (Builtin.SmallTypes.ownedTupleIsFree (.ref z)) Q E s := by
 obtain ⟨f0, f1, hz, hf0, hf1⟩ := hz
 unfold Builtin.SmallTypes.ownedTupleIsFree
 refine wpAny_bind (wpAny_field hz rfl (x := f0) rfl ?_)
 rcases hf0 with rfl | ⟨T, rfl⟩
 ·exact wpAny_pure (h1 _ _ hz)
 ·show wpAny _ _ (loadIfAlive T >>= _) _ _ _
  refine wpAny_bind (wpAny_alive ?_)
  cases hTa : s.heap.get? T with
  | none =>
   simp only [Option.isNone_none, if_true]
   exact wpAny_pure (h1 _ _ hz)
  | some oT =>
   simp only [Option.isNone_some, Bool.false_eq_true, if_false]
   show wpAny _ _ (field (.ref z) 1 >>= _) _ _ _
   refine wpAny_bind (wpAny_field hz rfl (x := f1) rfl ?_)
   rcases hf1 with rfl | rfl
   ·exact wpAny_bind (wpAny_setField_rec hz (by simp) fun g0 hz0 hs0 => wpAny_pure (h2 g0 T _ _ hz hz0 (.inr rfl) hs0))
   ·exact wpAny_bind (wpAny_pure (wpAny_pure (h2 s.heap T _ _ hz hz (.inr rfl) ⟨rfl, fun _ _ => rfl⟩)))
structure ZA2 (z TI TO i1 i2 l1 l2 : Addr) : Prop where
 TI_z : TI ≠ z
 TO_z : TO ≠ z
 TO_TI : TO ≠ TI
 i1_z : i1 ≠ z
 i1_TI : i1 ≠ TI
 i1_TO : i1 ≠ TO
 i2_z : i2 ≠ z
 i2_TI : i2 ≠ TI
 i2_TO : i2 ≠ TO
 i2_i1 : i2 ≠ i1
 l1_z : l1 ≠ z
 l1_TO : l1 ≠ TO
 l1_i1 : l1 ≠ i1
 l1_i2 : l1 ≠ i2
 l2_z : l2 ≠ z
 l2_TO : l2 ≠ TO
 l2_i1 : l2 ≠ i1
 l2_i2 : l2 ≠ i2
abbrev IsT2 (h : Heap) (T : Addr) (a1 a2 : Value) : Prop := h.get? T = some { cls := .type "tuple", data := .seq #[a1, a2] }
theorem upd_T2 {prog : Program} {w : World} {A : Around} {E : Value → Shared → Prop} {s : Shared} {T : Addr} {a1 a2 x : Value} {k : Nat} {Q : Unit → Shared → Prop} (hT : IsT2 s.heap T a1 a2)
  (h : ∀ h', h'.get? T = some { cls := .type "tuple", data := .seq ((#[a1, a2] : Array Value).setIfInBounds k x) } → Heap.SameBut T s.heap h' → Q () { s with heap := h' }) :
  wpAny (model prog w) A (updateSeq T (·.setIfInBounds k x)) Q E s := by
 have got := Heap.get?_update_self (Obj.mapSeq fun y => y.setIfInBounds k x) hT rfl
 exact wpAny_updateSeq hT rfl (h _ (got.trans (by simp [Obj.mapSeq])) (Heap.SameBut.update ..))
section
variable {P : Program} {w : World} {K : PySem.W.Frag} {A : Around} {E : Value → Shared → Prop} {s : Shared} (S1 S2 : SeqK P w K)
theorem zipF_item2 {z TI TO i1 i2 l1 l2 : Addr} {k : Nat} {xs1 xs2 : Array Value} {x1 x2 a1 a2 : Value} {Q : Value → Shared → Prop} (hh : A.handled = none) (D : ZA2 z TI TO i1 i2 l1 l2) (hz : ZipAny s.heap z TI TO) (hTI : IsT2 s.heap TI (.ref i1) (.ref i2)) (hTO : IsT2 s.heap TO a1 a2) (h1 : Dr S1 i1 l1 xs1 k s.heap) (h2 : Dr S2 i2 l2 xs2 k s.heap) (hx1 : xs1[k]? = some x1) (hx2 : xs2[k]? = some x2)
  (hQ : ∀ h' tk, ZipAny h' z TI TO → (IsZip h' z TI TO (rawInt s.heap.objs.size) ∨ IsZip s.heap z TI TO .none → IsZip h' z TI TO (rawInt s.heap.objs.size)) → (∃ a1 a2, IsT2 h' TO a1 a2) → Dr S1 i1 l1 xs1 (k + 1) h' → Dr S2 i2 l2 xs2 (k + 1) h' → IsT2 h' s.heap.objs.size x1 x2 → h'.objs.size = s.heap.objs.size + 1 →
   (∀ c o, c ≠ z → c ≠ TO → c ≠ i1 → c ≠ i2 → s.heap.get? c = some o → h'.get? c = some o) → Q (.ref s.heap.objs.size) { s with heap := h', toks := tk }) :
  wpAny (model P w) A (Builtin.«zip.__next__» ⟨[.ref z], []⟩) (fun fin s' => ∃ v, fin = .done (.ret v) ∧ Q v s') E s := by
 have hl1 : k < xs1.size := (Array.getElem?_eq_some_iff.mp hx1).1
 have hl2 : k < xs2.size := (Array.getElem?_eq_some_iff.mp hx2).1
 have D1 := fun (A : Around) (hh : A.handled = none) => S1.draws A hh i1 l1 D.l1_i1 xs1
 have D2 := fun (A : Around) (hh : A.handled = none) => S2.draws A hh i2 l2 D.l2_i2 xs2
 obtain ⟨f0', f1', hz', hf0', hf1'⟩ := id hz
 show wpAny _ _ (field (.ref z) 2 >>= _) _ _ _; refine wpAny_bind (wpAny_field hz' rfl (x := .bool false) rfl ?_)
 show wpAny _ _ (field (.ref z) 3 >>= _) _ _ _; refine wpAny_bind (wpAny_field hz' rfl (x := .ref TI) rfl ?_)
 refine wpAny_bind (wpAny_seqItems hTI rfl ?_); show wpAny _ _ (Builtin.SmallTypes.ownedTupleIsFree (.ref z) >>= _) _ _ _
 refine wpAny_bind (own_is hz (fun f0 f1 hz => ?_) fun g0 T f1 f2 hzs hz0 hf2 hs0 => ?_)
 ·simp only [if_true]
  refine wpAny_bind (wpAny_rule ?_); refine wpAny_bind (wpAny_field hz rfl (x := .ref TO) rfl ?_)
  refine wpAny_bind (wpAny_setField_rec hz (by simp) fun g0 hz0 hs0 => ?_); replace hz0 : IsZipF g0 z TI TO .ellipsis f1 := hz0
  refine wpAny_bind ?_; simp only [List.zipIdx_cons, List.zipIdx_nil, List.forIn_cons, List.forIn_nil]
  refine wpAny_bind (wpAny_bind (wpAny_onRaise ?_)); show wpAny _ _ (Builtin.SmallTypes.nextOf (.ref i1) >>= _) _ _ _
  refine wpAny_bind ((D1 _ hh).item k _ _ _ hl1 (Dr.ext h1 hs0.extBut D.i1_z D.l1_z) fun y1 g1 tk1 hy1 hd1 hs1 => wpAny_pure ?_)
  have ex1 : y1 = x1 := by rw [hx1] at hy1; exact (Option.some.inj hy1).symm
  subst ex1
  have hd1' : Dr S1 i1 l1 xs1 (k + 1) g1 := hd1
  have hT1 : IsT2 g1 TO a1 a2 := (hs1.extBut _ _ D.i1_TO.symm (hs0.extBut _ _ D.TO_z hTO))
  refine wpAny_bind (wpAny_seqItems hT1 rfl ?_); refine wpAny_bind (upd_T2 hT1 fun g2 hU1 hs2 => ?_)
  replace hU1 : IsT2 g2 TO y1 a2 := hU1
  refine wpAny_bind (wpAny_letGo (wpAny_pure ?_))
  refine wpAny_bind (wpAny_bind (wpAny_onRaise ?_)); show wpAny _ _ (Builtin.SmallTypes.nextOf (.ref i2) >>= _) _ _ _
  refine wpAny_bind ((D2 _ hh).item k _ _ _ hl2 (Dr.ext (Dr.ext (Dr.ext h2 hs0.extBut D.i2_z D.l2_z) hs1.extBut D.i2_i1 D.l2_i1) hs2.extBut D.i2_TO D.l2_TO) fun y2 g3 tk2 hy2 hd2 hs3 => wpAny_pure ?_)
  have ex2 : y2 = x2 := by rw [hx2] at hy2; exact (Option.some.inj hy2).symm
  subst ex2
  have hd2' : Dr S2 i2 l2 xs2 (k + 1) g3 := hd2
  have hT2 : IsT2 g3 TO y1 a2 := (hs3.extBut _ _ D.i2_TO.symm hU1)
  refine wpAny_bind (wpAny_seqItems hT2 rfl ?_); refine wpAny_bind (upd_T2 hT2 fun g4 hU2 hs4 => ?_)
  replace hU2 : IsT2 g4 TO y1 y2 := hU2
  refine wpAny_bind (wpAny_letGo (wpAny_pure (wpAny_pure ?_)))
  refine wpAny_bind (wpAny_seqItems hU2 rfl ?_); refine wpAny_bind (wpAny_newTuple ?_)
  have hsz : g4.objs.size = s.heap.objs.size := by rw [hs4.1, hs3.1, hs2.1, hs1.1, hs0.1]
  have hz5 : IsZipF g4 z TI TO .ellipsis f1 := (hs4.extBut _ _ D.TO_z.symm (hs3.extBut _ _ D.i2_z.symm (hs2.extBut _ _ D.TO_z.symm (hs1.extBut _ _ D.i1_z.symm hz0))))
  have hk5 : ∀ c o, c ≠ z → c ≠ TO → c ≠ i1 → c ≠ i2 → s.heap.get? c = some o → g4.get? c = some o := fun c o cz cTO ci1 ci2 e => (hs4.extBut _ _ cTO (hs3.extBut _ _ ci2 (hs2.extBut _ _ cTO (hs1.extBut _ _ ci1 (hs0.extBut _ _ cz e)))))
  have he1 : Dr S1 i1 l1 xs1 (k + 1) g4 := (Dr.ext (Dr.ext (Dr.ext hd1' hs2.extBut D.i1_TO D.l1_TO) hs3.extBut D.i2_i1.symm D.l1_i2) hs4.extBut D.i1_TO D.l1_TO)
  have he2 : Dr S2 i2 l2 xs2 (k + 1) g4 := (Dr.ext hd2' hs4.extBut D.i2_TO D.l2_TO)
  have hzlt : z < g4.objs.size := Heap.lt_size hz5
  show wpAny _ _ (Builtin.SmallTypes.ownedTupleHandOut (.ref z) (.ref g4.objs.size) >>= _) _ _ _; refine wpAny_bind ?_; unfold Builtin.SmallTypes.ownedTupleHandOut
  have hz6 : IsZipF (g4.push { cls := .type "tuple", data := .seq #[y1, y2] }) z TI TO .ellipsis f1 := Heap.get?_push_of_some _ hz5
  refine wpAny_bind (wpAny_setField_rec hz6 (by simp) fun ga hza hsa => ?_); replace hza : IsZipF ga z TI TO (rawInt g4.objs.size) f1 := hza
  refine wpAny_setField_rec hza (by simp) fun gb hzb hsb => ?_; replace hzb : IsZipF gb z TI TO (rawInt g4.objs.size) (.bool false) := hzb
  have up : ∀ c o, c ≠ z → g4.get? c = some o → gb.get? c = some o := fun c o c1 e => hsb.extBut _ _ c1 (hsa.extBut _ _ c1 (Heap.get?_push_of_some _ e))
  have hTb : IsT2 gb g4.objs.size y1 y2 := hsb.extBut _ _ (Nat.ne_of_gt hzlt) (hsa.extBut _ _ (Nat.ne_of_gt hzlt) (Heap.get?_push_size _ rfl))
  have hsb8 : gb.objs.size = g4.objs.size + 1 := by rw [hsb.1, hsa.1, Heap.size_push]
  have upE : Heap.ExtBut z g4 gb := fun c o c1 e => up c o c1 e
  rw [hsz] at hzb hTb hsb8
  refine wpAny_pure ⟨_, rfl, ?_⟩; show Q (.ref g4.objs.size) _; rw [hsz]
  exact hQ gb _ ⟨_, _, hzb, .inr ⟨_, rfl⟩, .inl rfl⟩ (fun _ => hzb) ⟨_, _, up _ _ D.TO_z hU2⟩ (he1.ext upE D.i1_z D.l1_z) (he2.ext upE D.i2_z D.l2_z) hTb hsb8 fun c o cz cTO ci1 ci2 e => up c o cz (hk5 c o cz cTO ci1 ci2 e)
 ·simp only [Bool.false_eq_true, if_false]
  refine wpAny_bind ?_; simp only [← Array.forIn_toList, List.forIn_cons, List.forIn_nil]
  refine wpAny_bind (wpAny_bind (wpAny_holding ?_)); show wpAny _ _ (Builtin.SmallTypes.nextOf (.ref i1) >>= _) _ _ _
  refine wpAny_bind ((D1 _ hh).item k _ _ _ hl1 (Dr.ext h1 hs0.extBut D.i1_z D.l1_z) fun y1 g1 tk1 hy1 hd1 hs1 => wpAny_pure ?_)
  have ex1 : y1 = x1 := by rw [hx1] at hy1; exact (Option.some.inj hy1).symm
  subst ex1
  have hd1' : Dr S1 i1 l1 xs1 (k + 1) g1 := hd1
  refine wpAny_pure ?_
  refine wpAny_bind (wpAny_bind (wpAny_holding ?_)); show wpAny _ _ (Builtin.SmallTypes.nextOf (.ref i2) >>= _) _ _ _
  refine wpAny_bind ((D2 _ hh).item k _ _ _ hl2 (Dr.ext (Dr.ext h2 hs0.extBut D.i2_z D.l2_z) hs1.extBut D.i2_i1 D.l2_i1) fun y2 g2 tk2 hy2 hd2 hs2 => wpAny_pure ?_)
  have ex2 : y2 = x2 := by rw [hx2] at hy2; exact (Option.some.inj hy2).symm
  subst ex2
  have hd2' : Dr S2 i2 l2 xs2 (k + 1) g2 := hd2
  refine wpAny_pure (wpAny_pure ?_)
  show wpAny _ _ (newTuple [y1, y2] >>= _) _ _ _; refine wpAny_bind (wpAny_newTuple ?_)
  have hsz : g2.objs.size = s.heap.objs.size := by rw [hs2.1, hs1.1, hs0.1]
  have hz5 : IsZipF g2 z TI TO (rawInt T) f2 := (hs2.extBut _ _ D.i2_z.symm (hs1.extBut _ _ D.i1_z.symm hz0))
  have hT5 : IsT2 g2 TO a1 a2 := (hs2.extBut _ _ D.i2_TO.symm (hs1.extBut _ _ D.i1_TO.symm (hs0.extBut _ _ D.TO_z hTO)))
  have he1 : Dr S1 i1 l1 xs1 (k + 1) g2 := (Dr.ext hd1' hs2.extBut D.i2_i1.symm D.l1_i2)
  have he2 : Dr S2 i2 l2 xs2 (k + 1) g2 := hd2'
  have hTb : IsT2 (g2.push { cls := .type "tuple", data := .seq #[y1, y2] }) g2.objs.size y1 y2 := Heap.get?_push_size _ rfl
  have hb8 : (g2.push { cls := .type "tuple", data := .seq #[y1, y2] }).objs.size = g2.objs.size + 1 := Heap.size_push ..
  refine wpAny_pure ⟨_, rfl, ?_⟩; show Q (.ref g2.objs.size) _
  have res := hQ (g2.push { cls := .type "tuple", data := .seq #[y1, y2] }) tk2 ⟨_, _, Heap.get?_push_of_some _ hz5, .inr ⟨_, rfl⟩, hf2⟩ (fun c => c.elim id fun c => absurd (congrArg (fun o : Obj => o.data) (Option.some.inj (hzs.symm.trans c))) (by simp [rawInt])) ⟨_, _, Heap.get?_push_of_some _ hT5⟩ ⟨S1.itk he1.1 fun o q => Heap.get?_push_of_some _ q, S1.isk he1.2 fun o q => Heap.get?_push_of_some _ q⟩ ⟨S2.itk he2.1 fun o q => Heap.get?_push_of_some _ q, S2.isk he2.2 fun o q => Heap.get?_push_of_some _ q⟩ (by rw [← hsz]; exact hTb) (by rw [hb8, hsz]) fun c o cz cTO ci1 ci2 e => Heap.get?_push_of_some _ (hs2.extBut _ _ ci2 (hs1.extBut _ _ ci1 (hs0.extBut _ _ cz e)))
  rw [hsz]; exact res
theorem zipF_end2_1 {z TI TO i1 i2 l1 l2 : Addr} {k : Nat} {xs1 xs2 : Array Value} {a1 a2 : Value} {Q : Fin → Shared → Prop} (hh : A.handled = none) (D : ZA2 z TI TO i1 i2 l1 l2) (hz : ZipAny s.heap z TI TO) (hTI : IsT2 s.heap TI (.ref i1) (.ref i2)) (hTO : IsT2 s.heap TO a1 a2) (h1 : Dr S1 i1 l1 xs1 k s.heap) (h2 : Dr S2 i2 l2 xs2 k s.heap)  (hend : k = xs1.size)
  (hE : ∀ h' tk e, (∀ c o, c ≠ z → c ≠ TO → c ≠ i1 → c ≠ i2 → s.heap.get? c = some o → h'.get? c = some o) → (∃ o, h'.get? e = some o ∧ o.cls = .type "StopIteration") → E (.ref e) { s with heap := h', toks := tk }) :
  wpAny (model P w) A (Builtin.«zip.__next__» ⟨[.ref z], []⟩) Q E s := by
 have D1 := fun (A : Around) (hh : A.handled = none) => S1.draws A hh i1 l1 D.l1_i1 xs1
 have D2 := fun (A : Around) (hh : A.handled = none) => S2.draws A hh i2 l2 D.l2_i2 xs2
 obtain ⟨f0', f1', hz', hf0', hf1'⟩ := id hz
 show wpAny _ _ (field (.ref z) 2 >>= _) _ _ _; refine wpAny_bind (wpAny_field hz' rfl (x := .bool false) rfl ?_)
 show wpAny _ _ (field (.ref z) 3 >>= _) _ _ _; refine wpAny_bind (wpAny_field hz' rfl (x := .ref TI) rfl ?_)
 refine wpAny_bind (wpAny_seqItems hTI rfl ?_); show wpAny _ _ (Builtin.SmallTypes.ownedTupleIsFree (.ref z) >>= _) _ _ _
 refine wpAny_bind (own_is hz (fun f0 f1 hz => ?_) fun g0 T f1 f2 hzs hz0 hf2 hs0 => ?_)
 ·simp only [if_true]
  refine wpAny_bind (wpAny_rule ?_); refine wpAny_bind (wpAny_field hz rfl (x := .ref TO) rfl ?_)
  refine wpAny_bind (wpAny_setField_rec hz (by simp) fun g0 hz0 hs0 => ?_); replace hz0 : IsZipF g0 z TI TO .ellipsis f1 := hz0
  refine wpAny_bind ?_; simp only [List.zipIdx_cons, List.zipIdx_nil, List.forIn_cons, List.forIn_nil]
  refine wpAny_bind (wpAny_bind (wpAny_onRaise ?_)); show wpAny _ _ (Builtin.SmallTypes.nextOf (.ref i1) >>= _) _ _ _
  have hcur := (Dr.ext h1 hs0.extBut D.i1_z D.l1_z)
  subst hend
  refine wpAny_bind ((D1 _ hh).done _ _ _ hcur fun ge e hse he => ?_)
  obtain ⟨oe, hoe, hce⟩ := he
  have hze : IsZipF ge z TI TO .ellipsis f1 := hse _ _ D.i1_z.symm hz0
  have hez : e ≠ z := fun x => by subst x; rw [hze] at hoe; cases hoe; simp at hce
  exact wpAny_setField_rec hze (by simp) fun gf _ hsf => hE gf _ e (fun c o cz cTO ci1 ci2 x => hsf.extBut _ _ cz (hse _ _ ci1 (hs0.extBut _ _ cz x))) ⟨oe, hsf.extBut _ _ hez hoe, hce⟩
 ·simp only [Bool.false_eq_true, if_false]
  refine wpAny_bind ?_; simp only [← Array.forIn_toList, List.forIn_cons, List.forIn_nil]
  refine wpAny_bind (wpAny_bind (wpAny_holding ?_)); show wpAny _ _ (Builtin.SmallTypes.nextOf (.ref i1) >>= _) _ _ _
  have hcur := (Dr.ext h1 hs0.extBut D.i1_z D.l1_z)
  subst hend
  refine wpAny_bind ((D1 _ hh).done _ _ _ hcur fun ge e hse he => ?_)
  obtain ⟨oe, hoe, hce⟩ := he
  exact hE ge _ e (fun c o cz cTO ci1 ci2 x => hse _ _ ci1 (hs0.extBut _ _ cz x)) ⟨oe, hoe, hce⟩
end
abbrev y1_2 {P : Program} {w : World} {K : PySem.W.Frag} (S1 S2 : SeqK P w K) (h : Heap) (l1 l2 : Addr) : Heap := (h).push (S1.obj l1)
abbrev y2_2 {P : Program} {w : World} {K : PySem.W.Frag} (S1 S2 : SeqK P w K) (h : Heap) (l1 l2 : Addr) : Heap := (y1_2 S1 S2 h l1 l2).push (S2.obj l2)
abbrev yI_2 {P : Program} {w : World} {K : PySem.W.Frag} (S1 S2 : SeqK P w K) (h : Heap) (l1 l2 : Addr) : Heap := (y2_2 S1 S2 h l1 l2).push { cls := .type "tuple", data := .seq #[.ref h.objs.size, .ref (y1_2 S1 S2 h l1 l2).objs.size] }
abbrev yO_2 {P : Program} {w : World} {K : PySem.W.Frag} (S1 S2 : SeqK P w K) (h : Heap) (l1 l2 : Addr) : Heap := (yI_2 S1 S2 h l1 l2).push { cls := .type "tuple", data := .seq #[.none, .none] }
abbrev yZ_2 {P : Program} {w : World} {K : PySem.W.Frag} (S1 S2 : SeqK P w K) (h : Heap) (l1 l2 : Addr) : Heap := (yO_2 S1 S2 h l1 l2).push { cls := .type "zip", data := .fields #[.none, .bool false, .bool false, .ref (y2_2 S1 S2 h l1 l2).objs.size, .ref (yI_2 S1 S2 h l1 l2).objs.size] }
def ZipNew2 {P : Program} {w : World} {K : PySem.W.Frag} (S1 S2 : SeqK P w K) : Prop := S1.ok ∧ S2.ok ∧ ∀ (l1 l2 : Addr) (xs1 xs2 : Array Value),
  Meets (Builtin.«zip.__new__» ⟨[.type "zip", .ref l1, .ref l2], []⟩) (fun _ R s => S1.Is s.heap l1 xs1 ∧ S2.Is s.heap l2 xs2 ∧ R (.ok (.ret (.ref (yO_2 S1 S2 s.heap l1 l2).objs.size))) { s with heap := yZ_2 S1 S2 s.heap l1 l2 })
theorem ev_zip2 {X : Cx} {p pos : Pos} {e1 e2 : Expr} {ta : TA} (S1 S2 : SeqK X.prog X.w X.K) (zn : ZipNew2 S1 S2) (hg : Gl X "zip") (hm : X.mg "zip" = none) (ha : PA X [e1, e2] ta) (hs1 : starEach [e1, e2] X.env = [(false, eval e1 X.env), (false, eval e2 X.env)]) (hs2 : starEach [e2] X.env = [(false, eval e2 X.env)])
  {pins : List (Addr × Obj)} {s : Shared} {σ : St} {H : Hp} {R : Addr → Addr → Hp → Prop} (I : Inv X pins σ H s) (h : ta σ H fun vs H1 => ∃ l1 l2, vs = [.ref l1, .ref l2] ∧ (∃ xs, S1.Sq H1 l1 xs) ∧ (∃ xs, S2.Sq H1 l2 xs) ∧ R l1 l2 H1) :
  wpAny (model X.prog X.w) X.A (eval (.Call (.Name "zip" p) [e1, e2] [] pos) X.env) (fun v s1 => ∃ l1 l2 H1, ∃ m : Nat, v = .ref (m + 4) ∧ R l1 l2 H1 ∧ Inv X pins σ H1 s1 ∧ IsZip s1.heap (m + 4) (m + 2) (m + 3) .none ∧ IsT2 s1.heap (m + 2) (.ref m) (.ref (m + 1)) ∧ IsT2 s1.heap (m + 3) .none .none ∧ S1.It s1.heap m l1 0 ∧ S2.It s1.heap (m + 1) l2 0 ∧ l1 < m ∧ l2 < m ∧ (∀ b, m ≤ b → FpOk X pins H1 b) ∧ s1.heap.objs.size = m + 5) X.xe s := by
 refine Call_ (ld_blt I hg hm boot_zip (PyProof.Rows.callWith_type1 (thn (ha pos pins s σ H _ I h) fun us s1 ⟨vs, H1, I1, r1, q1⟩ => ?_) (by rw [hs1, hs2]) (by rw [hs2]; rfl)))
 obtain ⟨l1, l2, e, ⟨xs1, hq1⟩, ⟨xs2, hq2⟩, q⟩ := q1
 subst e
 rcases r1 with _ | ⟨ru1, r1⟩
 rcases r1 with _ | ⟨ru2, r1⟩
 cases r1
 cases ru1; cases ru2
 obtain ⟨its1, rv1, is1, _⟩ := S1.get rfl I1 hq1
 obtain ⟨its2, rv2, is2, _⟩ := S2.get rfl I1 hq2
 obtain ⟨o1, ho1⟩ := S1.iso is1
 have hl1 := Heap.lt_size ho1
 obtain ⟨o2, ho2⟩ := S2.iso is2
 have hl2 := Heap.lt_size ho2
 refine callType_new F.called_zip (by decide) (F.typeCall_zip_2 _ _) (F.newCall_zip_2 _ _) (fun obj => F.args_object_init_3 obj _ _) F.entry_zip_new (zn.2.2 l1 l2 its1.toArray its2.toArray) ⟨is1, is2, ?_⟩
 have z1 : (y1_2 S1 S2 s1.heap l1 l2).objs.size = s1.heap.objs.size + 1 := by rw [Heap.size_push]
 have z2 : (y2_2 S1 S2 s1.heap l1 l2).objs.size = s1.heap.objs.size + 2 := by rw [Heap.size_push, z1]
 have z3 : (yI_2 S1 S2 s1.heap l1 l2).objs.size = s1.heap.objs.size + 3 := by rw [Heap.size_push, z2]
 have z4 : (yO_2 S1 S2 s1.heap l1 l2).objs.size = s1.heap.objs.size + 4 := by rw [Heap.size_push, z3]
 have zz : (yZ_2 S1 S2 s1.heap l1 l2).objs.size = s1.heap.objs.size + 5 := by rw [Heap.size_push, z4]
 have gz : (yZ_2 S1 S2 s1.heap l1 l2).get? (yO_2 S1 S2 s1.heap l1 l2).objs.size = some _ := Heap.get?_push_size _ rfl
 have gO : (yZ_2 S1 S2 s1.heap l1 l2).get? (yI_2 S1 S2 s1.heap l1 l2).objs.size = some _ := Heap.get?_push_of_some _ (Heap.get?_push_size _ rfl)
 have gI : (yZ_2 S1 S2 s1.heap l1 l2).get? (y2_2 S1 S2 s1.heap l1 l2).objs.size = some _ := Heap.get?_push_of_some _ (Heap.get?_push_of_some _ (Heap.get?_push_size _ rfl))
 have g1 : S1.It (yZ_2 S1 S2 s1.heap l1 l2) s1.heap.objs.size l1 0 := S1.itk (S1.itn zn.1 _ _) fun o q => Heap.get?_push_of_some _ (Heap.get?_push_of_some _ (Heap.get?_push_of_some _ (Heap.get?_push_of_some _ (q))))
 have g2 : S2.It (yZ_2 S1 S2 s1.heap l1 l2) (y1_2 S1 S2 s1.heap l1 l2).objs.size l2 0 := S2.itk (S2.itn zn.2.1 _ _) fun o q => Heap.get?_push_of_some _ (Heap.get?_push_of_some _ (Heap.get?_push_of_some _ (q)))
 have kk : ∀ b o, s1.heap.get? b = some o → (yZ_2 S1 S2 s1.heap l1 l2).get? b = some o := fun b o x => Heap.get?_push_of_some _ (Heap.get?_push_of_some _ (Heap.get?_push_of_some _ (Heap.get?_push_of_some _ (Heap.get?_push_of_some _ (x)))))
 show _ ∧ _
 rw [z2, z3, z4] at gz; rw [z3] at gO; rw [z1, z2] at gI; rw [z4]
 rw [z1] at g2
 generalize yZ_2 S1 S2 s1.heap l1 l2 = hE at g1 g2 gI gO gz kk zz ⊢
 have I2 : Inv X pins σ H1 { s1 with heap := hE } := I1.kept (t' := s1.toks) kk
 exact ⟨⟨_, gz, rfl⟩, l1, l2, H1, s1.heap.objs.size, rfl, q, I2, gz, gI, gO, g1, g2, hl1, hl2, fun b hb => I1.fpOk hb (I1.hok.fresh hb), zz⟩
set_option maxHeartbeats 8000000 in
theorem zn_TT (P : Program) (w : World) (K : PySem.W.Frag) : ZipNew2 (seqT P w K) (seqT P w K) := ⟨trivial, trivial, fun l1 l2 xs1 xs2 =>
 .of_wp fun prog w A R s h => by
  obtain ⟨hp, g, d, tk, os⟩ := s; obtain ⟨hl1, hl2, h⟩ := h; have hsub := sub_zip
  have hL1 : Heap.IsTuple (Shared.heap ⟨hp, g, d, tk, os⟩) l1 xs1 := hl1
  have hL2 : Heap.IsTuple (Shared.heap ⟨(hp).push { cls := .type "tuple_iterator", data := .fields #[.ref l1, .int 0 0] }, g, d, tk, os⟩) l2 xs2 := Heap.IsTuple.push (hl2) _
  wp_walk using wpAny_pyIter_tuple hL1, wpAny_pyIter_tuple hL2
  exact ⟨_, rfl, h⟩⟩
theorem za_apart2 {n l1 l2 : Nat} (h1 : l1 < n) (h2 : l2 < n) : ZA2 (n + 4) (n + 2) (n + 3) n (n + 1) l1 l2 := by constructor <;> intro z <;> (have z' := z; revert z'; intro z'; try (change (_ : Nat) = _ at z'); omega)
def Itz {P : Program} {w : World} {K : PySem.W.Frag} (S1 S2 : SeqK P w K) (a b : Addr) : It :=
 ⟨fun i H => ∃ xs ys x y, S1.Sq H a xs ∧ S2.Sq H b ys ∧ xs[i]? = some x ∧ ys[i]? = some y, fun i H v H' => ∃ T, v = .ref T ∧ H T = none ∧ ∀ xs ys x y, S1.Sq H a xs → S2.Sq H b ys → xs[i]? = some x → ys[i]? = some y → H' = upd H T (.tup [x, y]),
  fun i H => ∃ xs ys, S1.Sq H a xs ∧ S2.Sq H b ys ∧ xs.length = i⟩
theorem turn_zip {P : Program} {w : World} {K : PySem.W.Frag} (S1 S2 : SeqK P w K) {es : List Expr} {k : Nat} {pos : Pos} (z TI TO i1 i2 l1 l2 : Addr) (D : ZA2 z TI TO i1 i2 l1 l2) :
  Turn P w K (.Tuple es k pos) (Itz S1 S2 l1 l2) [z, TI, TO, i1, i2] z (fun i h => IsZip h z TI TO .none ∧ IsT2 h TI (.ref i1) (.ref i2) ∧ (∃ a b, IsT2 h TO a b) ∧ S1.It h i1 l1 i ∧ S2.It h i2 l2 i) where
 mem := by simp
 obj := fun i h st b hb => by
  obtain ⟨hz, hTI, ⟨a, b', hTO⟩, h1, h2⟩ := st
  simp only [List.mem_cons, List.not_mem_nil, or_false] at hb
  rcases hb with e | e | e | e | e <;> rw [e]
  ·exact ⟨_, hz, fun v q => by have q' : Data.fields _ = Data.cell v := q; cases q'⟩
  ·exact ⟨_, hTI, fun v q => by have q' : Data.seq _ _ = Data.cell v := q; cases q'⟩
  ·exact ⟨_, hTO, fun v q => by have q' : Data.seq _ _ = Data.cell v := q; cases q'⟩
  ·exact S1.ito h1
  ·exact S2.ito h2
 keep := fun i h h' st kk => by
  obtain ⟨hz, hTI, ⟨a, b', hTO⟩, h1, h2⟩ := st
  exact ⟨kk z (by simp) _ hz, kk TI (by simp) _ hTI, ⟨a, b', kk TO (by simp) _ hTO⟩, S1.itk h1 fun o q => kk i1 (by simp) o q, S2.itk h2 fun o q => kk i2 (by simp) o q⟩
 item := by
  intro X hP hw hK hc i pins s σ H E I hf st hg
  subst hP hw
  obtain ⟨xs, ys, x, y, hq1, hq2, hx, hy⟩ := hg
  obtain ⟨its1, rv1, is1, hz1⟩ := S1.get hK I hq1
  obtain ⟨its2, rv2, is2, hz2⟩ := S2.get hK I hq2
  obtain ⟨u1, hu1, ru1⟩ := rv1.get hx
  obtain ⟨u2, hu2, ru2⟩ := rv2.get hy
  obtain ⟨hz, hTI, ⟨a, b', hTO⟩, h1, h2⟩ := st
  have hh := I.ok.hd hc
  have hT : s.TypeIs (.ref z) "zip" := ⟨_, hz, rfl⟩
  unfold pyNext
  refine wpAny_bind (wpAny_attempt (wpAny_callSpecial?_slot (name := Str.ofString "__next__") hT F.slot_zip_next (wpAny_call_entry F.slot_zip_next hT F.entry_zip_next
   (zipF_item2 S1 S2 (x1 := u1) (x2 := u2) hh D ⟨_, _, hz, .inl rfl, .inl rfl⟩ hTI hTO ⟨h1, is1⟩ ⟨h2, is2⟩ (by simpa using hu1) (by simpa using hu2) fun h' tk _ az a2 a3 a4 a5 a6 hk => wpAny_pure ⟨_, rfl, ?_⟩) (F.args_zip_next_1 _))))
  obtain ⟨b1, b2, a2⟩ := a2
  refine wpAny_letOwnedTupleGo_zip (az (.inr hz)) fun h'' z1 sb => ?_
  have kk : ∀ b o, b ∉ [z, TI, TO, i1, i2] → s.heap.get? b = some o → h''.get? b = some o := fun b o hb q => sb.extBut b o (fun e => hb (by simp [e])) (hk b o (fun e => hb (by simp [e])) (fun e => hb (by simp [e])) (fun e => hb (by simp [e])) (fun e => hb (by simp [e])) q)
  have zl : z < s.heap.objs.size := Heap.lt_size hz
  have ht : IsTup h'' s.heap.objs.size [u1, u2].toArray := ⟨_, sb.extBut _ _ (Nat.ne_of_gt zl) a5, rfl, _, rfl⟩
  exact ⟨.ref s.heap.objs.size, upd H s.heap.objs.size (.tup [x, y]), I.yielded (tk := tk) (fun b hb => hf b hb) kk (Nat.le_refl _) ht (.cons ru1 (.cons ru2 .nil)) (by show 2 ≤ sizeLine; decide), rfl,
   ⟨_, rfl, I.hok.fresh (Nat.le_refl _), fun xs' ys' x' y' e1 e2 e3 e4 => by
    rw [S1.inj hK I e1 hq1, hx] at e3; rw [S2.inj hK I e2 hq2, hy] at e4; cases e3; cases e4; rfl⟩,
   ⟨z1, sb.extBut _ _ D.TI_z (hk _ _ D.TI_z D.TO_TI.symm D.i1_TI.symm D.i2_TI.symm hTI), ⟨_, _, sb.extBut _ _ D.TO_z a2⟩, S1.itk a3.1 fun o q => sb.extBut _ o D.i1_z q, S2.itk a4.1 fun o q => sb.extBut _ o D.i2_z q⟩, fun b hb => by
    have hbt : b < s.heap.objs.size := by
     simp only [List.mem_cons, List.not_mem_nil, or_false] at hb
     rcases hb with e | e | e | e | e <;> rw [e]
     ·exact zl
     ·exact Heap.lt_size hTI
     ·exact Heap.lt_size hTO
     ·obtain ⟨o, q, _⟩ := S1.ito h1; exact Heap.lt_size q
     ·obtain ⟨o, q, _⟩ := S2.ito h2; exact Heap.lt_size q
    rw [upd_ne (Nat.ne_of_lt hbt)]; exact (hf b hb).1⟩
 done := by
  intro X hP hw hK hc i pins s σ H E I hf st hg
  subst hP hw
  obtain ⟨xs, ys, hq1, hq2, hend⟩ := hg
  obtain ⟨its1, rv1, is1, hz1⟩ := S1.get hK I hq1
  obtain ⟨its2, rv2, is2, hz2⟩ := S2.get hK I hq2
  obtain ⟨hz, hTI, ⟨a, b', hTO⟩, h1, h2⟩ := st
  have hh := I.ok.hd hc
  have hT : s.TypeIs (.ref z) "zip" := ⟨_, hz, rfl⟩
  have e1 := rv1.length
  have e2 := rv2.length
  unfold pyNext
  refine wpAny_bind (wpAny_attempt (wpAny_callSpecial?_slot (name := Str.ofString "__next__") hT F.slot_zip_next (wpAny_call_entry F.slot_zip_next hT F.entry_zip_next
   (zipF_end2_1 S1 S2 hh D ⟨_, _, hz, .inl rfl, .inl rfl⟩ hTI hTO ⟨h1, is1⟩ ⟨h2, is2⟩ (by simp; omega) fun h' tk e hk he => ?_) (F.args_zip_next_1 _))))
  obtain ⟨o, ho, hco⟩ := he
  refine wpAny_bind (wpAny_isInstance (T := "StopIteration") (b := true) ⟨o, ho, hco⟩ isSubtype_stop ?_)
  exact wpAny_pure ⟨rfl, I.ended (wr := [z, TI, TO, i1, i2]) (tk := tk) (fun b hb => hf b hb) fun b o hb q => hk b o (fun e => hb (by simp [e])) (fun e => hb (by simp [e])) (fun e => hb (by simp [e])) (fun e => hb (by simp [e])) q⟩
 self := fun _ _ _ _ _ st h => wpAny_pyIter_zip st.1 h
def iZip {P : Program} {w : World} {K : PySem.W.Frag} (S1 S2 : SeqK P w K) (ta : TA) : TI := fun σ H R => ta σ H fun vs H1 => ∃ a b, vs = [.ref a, .ref b] ∧ (∃ xs, S1.Sq H1 a xs) ∧ (∃ ys, S2.Sq H1 b ys) ∧ R (Itz S1 S2 a b) H1
theorem pi_zip2 {X : Cx} {es : List Expr} {k : Nat} {p pos pos' : Pos} {e1 e2 : Expr} {ta : TA} (S1 S2 : SeqK X.prog X.w X.K) (zn : ZipNew2 S1 S2) (hg : Gl X "zip") (hm : X.mg "zip" = none) (ha : PA X [e1, e2] ta)
  (hs : starEach [e1, e2] X.env = [(false, eval e1 X.env), (false, eval e2 X.env)]) (hs2 : starEach [e2] X.env = [(false, eval e2 X.env)]) : PI X (.Tuple es k pos') (.Call (.Name "zip" p) [e1, e2] [] pos) (iZip S1 S2 ta) := by
 intro pins s σ H R I h
 refine thn (ev_zip2 S1 S2 zn (R := fun l1 l2 H1 => R (Itz S1 S2 l1 l2) H1) hg hm ha hs hs2 I h) fun v s1 ⟨l1, l2, H1, m, e, q, I1, gz, gI, gO, g1, g2, h1, h2, fr, _⟩ => ?_
 subst e
 exact wpAny_pyIter_zip gz ⟨_, [m + 4, m + 2, m + 3, m, m + 1], _, _, H1, rfl, I1, turn_zip S1 S2 _ _ _ _ _ l1 l2 (za_apart2 h1 h2), ⟨gz, gI, ⟨_, _, gO⟩, g1, g2⟩, fun b hb => fr b (by
  simp only [List.mem_cons, List.not_mem_nil, or_false] at hb
  rcases hb with e | e | e | e | e <;> rw [e] <;> first | exact Nat.le_refl _ | exact Nat.le_add_right _ _), q⟩
theorem pi_zipTT {X : Cx} {es : List Expr} {k : Nat} {p pos pos' : Pos} {e1 e2 : Expr} {ta : TA} (hg : Gl X "zip") (hm : X.mg "zip" = none) (ha : PA X [e1, e2] ta)
  (hs : starEach [e1, e2] X.env = [(false, eval e1 X.env), (false, eval e2 X.env)] := by rfl) (hs2 : starEach [e2] X.env = [(false, eval e2 X.env)] := by rfl) : PI X (.Tuple es k pos') (.Call (.Name "zip" p) [e1, e2] [] pos) (iZip (seqT X.prog X.w X.K) (seqT X.prog X.w X.K) ta) := pi_zip2 _ _ (zn_TT _ _ _) hg hm ha hs hs2
end L2

end

section
namespace L2
open PySem PySem.Spec PyProof.Rows
section
variable {X : Cx} {e a b c : Expr} {es rest : List Expr} {ta tb tc te : TE} {pos p : Pos} {tA tB' : TT} {t u : TS}
theorem PE.weak {t t' : TE} (h : PE X e t) (w : ∀ σ H Q, t' σ H Q → t σ H Q) : PE X e t' := fun pins s σ H Q I q => h pins s σ H Q I (w σ H Q q)
def cVar (i : Nat) : TE := fun σ H Q => match σ[i]? with | some (some v) => Q v H | _ => False
theorem cv (i : Nat) {x : Str} {pos : Pos} (hN : X.N[i]? = some x := by rfl) (hv : Vis X.env.scope x := by first | exact Or.inl rfl | exact Or.inr (Or.inl rfl) | exact Or.inr (Or.inr rfl)) (hd : (x == ("__debug__" : Str)) = false := by decide)
  (hcd : (x == ("__classdict__" : Str)) = false := by decide) : PE X (.Name x pos) (cVar i) := (pe_var hN hv hd hcd).weak fun σ H Q q => by
 unfold cVar at q
 split at q
 ·exact ⟨_, by assumption, q⟩
 ·exact q.elim
def cI (C : Int → Int → Prop) (g : Int → Int → V) (ta tb : TE) : TE := fun σ H Q => ta σ H fun x H1 => tb σ H1 fun y H2 => match x, y with | .int i, .int j => C i j ∧ Q (g i j) H2 | _, _ => False
end
section
variable {X : Cx} {e a b c : Expr} {es rest : List Expr} {ta tb tc te : TE} {pos p : Pos}
theorem rI_of {C : Int → Int → Prop} {g : Int → Int → V} {x y : V} {H : Hp} {Q : VK} (h : match x, y with | .int i, .int j => C i j ∧ Q (g i j) H | _, _ => False) : rI C g x y H Q := by
 split at h
 ·exact ⟨_, _, rfl, rfl, h⟩
 ·exact h.elim
theorem rI0_of {g : Int → Int → V} {x y : V} {H : Hp} {Q : VK} (h : match x, y with | .int i, .int j => Q (g i j) H | _, _ => False) : rI0 g x y H Q := by
 split at h
 ·exact ⟨_, _, rfl, rfl, h⟩
 ·exact h.elim
def mI (C : Int → Int → Prop) (g : Int → Int → V) : R2 := fun x y H Q => match x, y with | .int i, .int j => C i j ∧ Q (g i j) H | _, _ => False
def mI0 (g : Int → Int → V) : R2 := fun x y H Q => match x, y with | .int i, .int j => Q (g i j) H | _, _ => False
theorem OpR.mI {f : Value → Value → Sem Value} {C : Int → Int → Prop} {g : Int → Int → V} (h : OpR X f (rI C g)) : OpR X f (L2.mI C g) := fun pins s σ H x y v u Q I rx ry q => h pins s σ H x y v u Q I rx ry (rI_of q)
theorem OpR.mI0 {f : Value → Value → Sem Value} {g : Int → Int → V} (h : OpR X f (rI0 g)) : OpR X f (L2.mI0 g) := fun pins s σ H x y v u Q I rx ry q => h pins s σ H x y v u Q I rx ry (rI0_of q)
theorem o_add : OpR X (binaryOp .Add) (mI0 fun i j => .int (i + j)) := op_add.mI0
theorem o_sub : OpR X (binaryOp .Sub) (mI0 fun i j => .int (i - j)) := op_sub.mI0
theorem o_mul : OpR X (binaryOp .Mult) (mI CMul fun i j => .int (i * j)) := op_mul.mI
theorem o_fdiv : OpR X (binaryOp .FloorDiv) (mI CDiv fun i j => .int (i / j)) := op_fdiv.mI
theorem o_mod : OpR X (binaryOp .Mod) (mI (fun _ j => 0 < j) fun i j => .int (i % j)) := op_mod.mI
theorem o_pow : OpR X (binaryOp .Pow) (mI CPow fun i j => .int (i ^ j.toNat)) := op_pow.mI
theorem o_lt : OpR X (compareOp .Lt) (mI0 fun i j => .bl (decide (i < j))) := op_lt.mI0
theorem o_le : OpR X (compareOp .LtE) (mI0 fun i j => .bl (decide (i ≤ j))) := op_le.mI0
theorem o_gt : OpR X (compareOp .Gt) (mI0 fun i j => .bl (decide (j < i))) := op_gt.mI0
theorem o_ge : OpR X (compareOp .GtE) (mI0 fun i j => .bl (decide (j ≤ i))) := op_ge.mI0
def mB (x : V) (Q : Bool → Prop) : Prop := match x with | .bl c => Q c | _ => False
end
structure Mono (t : TE) : Prop where
 m : ∀ {σ H} {Q Q' : VK}, t σ H Q → (∀ v H', Q v H' → Q' v H') → t σ H Q'
section
variable {X : Cx} {e a b c : Expr} {es rest : List Expr} {te : TE} {pos p : Pos}
def cB (t : TE) : TT := fun σ H Q => t σ H fun x H1 => match x with | .bl c => Q c H1 | _ => False
theorem c_val {t : TE} (h : PE X e t) (he : ∀ whole, isTrue e X.env whole = (do let v ← whole; standAt e.pos; holding [v] (truthy v)) := by intro _; rfl) : PT X e (cB t) := by
 intro pins s σ H Q I hw
 refine isTrue_plain (thn (h pins s σ H _ I hw) fun v s1 ⟨x, H1, I1, r1, q1⟩ => ?_) (he _)
 dsimp only at q1
 split at q1
 ·cases r1; exact wpAny_truthy_bool ⟨H1, I1, q1⟩
 ·exact q1.elim
theorem c_cmpT {op : CmpOp} {r : R2} {ta tb : TE} (ho : OpR X (compareOp op) r) (ha : PE X a ta) (hb : PE X b tb) (hm : behindInMarks op b = false) : PT X (.Compare a [op] [b] pos) (cB (tOp r ta tb)) := by
 intro pins s σ H Q I h
 refine wpAny_isTrue_Compare1 (thn (ha pins s σ H _ I h) fun v s1 ⟨x, H1, I1, r1, q1⟩ => thn (hb pins s1 σ H1 _ I1 q1) fun u s2 ⟨y, H2, I2, r2, q2⟩ =>
  thn (ho pins s2 σ H2 x y v u _ I2 r1 r2 q2) fun c s3 ⟨z, H3, I3, r3, q3⟩ => ?_) hm
 dsimp only at q3
 split at q3
 ·cases r3; exact wpAny_truthy_bool ⟨H3, I3, q3⟩
 ·exact q3.elim
def cChain (r r' : R2) (ta tb tc : TE) : TE := fun σ H Q => ta σ H fun x H1 => tb σ H1 fun y H2 => r x y H2 fun z H3 => match z with | .bl k => br k (tc σ H3 fun w' H4 => r' y w' H4 Q) (Q (.bl false) H3) | _ => False
theorem c_chain {op op' : CmpOp} {r r' : R2} {ta tb tc : TE} (ho : OpR X (compareOp op) r) (ho' : OpR X (compareOp op') r') (ha : PE X a ta) (hb : PE X b tb) (hc : PE X c tc)
  (hm : lastMarks [op, op'] [b, c] = false := by with_unfolding_all rfl) : PE X (.Compare a [op, op'] [b, c] pos) (cChain r r' ta tb tc) := by
 intro pins s σ H Q I h
 refine Compare_chain (thn (ha pins s σ H _ I h) fun v s1 ⟨x, H1, I1, r1, q1⟩ => chain_link (thn (hb pins s1 σ H1 _ I1 q1) fun u s2 ⟨y, H2, I2, r2, q2⟩ =>
  thn (ho pins s2 σ H2 x y v u _ I2 r1 r2 q2) fun d s3 ⟨z, H3, I3, r3, q3⟩ => ?_)) hm
 dsimp only at q3
 split at q3
 ·rename_i k
  cases r3
  refine wpAny_truthy_bool ?_
  cases k with
  | false => exact ite_ff ⟨.bl false, H3, I3, rfl, q3.2 rfl⟩
  | true => exact ite_tt (chain_last (thn (hc pins s3 σ H3 _ I3 (q3.1 rfl)) fun w' s4 ⟨z', H4, I4, r4, q4⟩ => ho' pins s4 σ H4 y z' u w' Q I4 r2 r4 q4))
 ·exact q3.elim
theorem c_chainT {op op' : CmpOp} {r r' : R2} {ta tb tc : TE} (ho : OpR X (compareOp op) r) (ho' : OpR X (compareOp op') r') (ha : PE X a ta) (hb : PE X b tb) (hc : PE X c tc)
  (hm : lastMarks [op, op'] [b, c] = false := by with_unfolding_all rfl) : PT X (.Compare a [op, op'] [b, c] pos) (cB (cChain r r' ta tb tc)) := by
 intro pins s σ H Q I h
 refine isTrue_chain (thn (ha pins s σ H _ I h) fun v s1 ⟨x, H1, I1, r1, q1⟩ => test_link (thn (hb pins s1 σ H1 _ I1 q1) fun u s2 ⟨y, H2, I2, r2, q2⟩ =>
  thn (ho pins s2 σ H2 x y v u _ I2 r1 r2 q2) fun d s3 ⟨z, H3, I3, r3, q3⟩ => ?_)) hm
 dsimp only at q3
 split at q3
 ·rename_i k
  cases r3
  refine wpAny_truthy_bool ?_
  cases k with
  | false => exact ite_ff ⟨H3, I3, q3.2 rfl⟩
  | true =>
   refine ite_tt (test_last (thn (hc pins s3 σ H3 _ I3 (q3.1 rfl)) fun w' s4 ⟨z', H4, I4, r4, q4⟩ => thn (ho' pins s4 σ H4 y z' u w' _ I4 r2 r4 q4) fun d' s5 ⟨z2, H5, I5, r5, q5⟩ => ?_))
   dsimp only at q5
   split at q5
   ·cases r5; exact wpAny_truthy_bool ⟨H5, I5, q5⟩
   ·exact q5.elim
 ·exact q3.elim
def cAnd (t u : TT) : TT := fun σ H Q => t σ H fun c H1 => br c (u σ H1 Q) (Q false H1)
def cOr (t u : TT) : TT := fun σ H Q => t σ H fun c H1 => br c (Q true H1) (u σ H1 Q)
theorem c_and {tA tB' : TT} (ha : PT X a tA) (hb : PW X (.BoolOp .And (b :: rest) pos) tB') : PW X (.BoolOp .And (a :: b :: rest) pos) (cAnd tA tB') := by
 intro wh pins s σ H Q I h
 refine isTrue_and (thn (ha pins s σ H _ I h) fun c s1 ⟨H1, I1, q1⟩ => ?_)
 cases c with
 | true => exact hb wh pins s1 σ H1 Q I1 (q1.1 rfl)
 | false => exact ⟨H1, I1, q1.2 rfl⟩
theorem c_or {tA tB' : TT} (ha : PT X a tA) (hb : PW X (.BoolOp .Or (b :: rest) pos) tB') : PW X (.BoolOp .Or (a :: b :: rest) pos) (cOr tA tB') := by
 intro wh pins s σ H Q I h
 refine isTrue_or (thn (ha pins s σ H _ I h) fun c s1 ⟨H1, I1, q1⟩ => ?_)
 cases c with
 | true => exact ⟨H1, I1, q1.1 rfl⟩
 | false => exact hb wh pins s1 σ H1 Q I1 (q1.2 rfl)
def cAndV (ta tb : TE) : TE := fun σ H Q => ta σ H fun x H1 => match x with | .bl c => br c (tb σ H1 Q) (Q (.bl false) H1) | _ => False
def cNotV (ta : TE) : TE := fun σ H Q => ta σ H fun x H1 => match x with | .bl c => Q (.bl (!c)) H1 | _ => False
theorem c_andV {ta tb : TE} (ha : PE X a ta) (hb : PE X (.BoolOp .And (b :: rest) pos) tb) : PE X (.BoolOp .And (a :: b :: rest) pos) (cAndV ta tb) := by
 intro pins s σ H Q I h
 refine BoolOp_and (thn (ha pins s σ H _ I h) fun v s1 ⟨x, H1, I1, r1, q1⟩ => ?_)
 dsimp only at q1
 split at q1
 ·rename_i c
  cases r1
  refine wpAny_truthy_bool ?_
  cases c with
  | true => exact hb pins s1 σ H1 Q I1 (q1.1 rfl)
  | false => exact ⟨.bl false, H1, I1, rfl, q1.2 rfl⟩
 ·exact q1.elim
theorem c_notV {ta : TE} (ha : PE X a ta) : PE X (.UnaryOp .Not a pos) (cNotV ta) := by
 intro pins s σ H Q I h
 refine UnaryOp_ (thn (ha pins s σ H _ I h) fun v s1 ⟨x, H1, I1, r1, q1⟩ => ?_)
 dsimp only at q1
 split at q1
 ·rename_i c
  cases r1
  exact not_of (wpAny_truthy_bool ⟨.bl (!c), H1, I1, rfl, q1⟩)
 ·exact q1.elim
def cIf (t : TT) (ta tb : TE) : TE := fun σ H Q => t σ H fun c H1 => br c (ta σ H1 Q) (tb σ H1 Q)
theorem c_ifE {ta tb : TE} {tA : TT} (hc : PT X c tA) (ha : PE X a ta) (hb : PE X b tb) : PE X (.IfExp c a b pos) (cIf tA ta tb) := by
 intro pins s σ H Q I h
 refine wpAny_IfExp (thn (hc pins s σ H _ I h) fun d s1 ⟨H1, I1, q1⟩ => ?_)
 cases d with
 | true => exact ha pins s1 σ H1 Q I1 (q1.1 rfl)
 | false => exact hb pins s1 σ H1 Q I1 (q1.2 rfl)
def cIfS (c : TT) (t u : TS) : TS := fun D σ H => c σ H fun b H1 => br b (t D σ H1) (u D σ H1)
theorem c_if {sa sb : List Stmt} {tc : TT} {t u : TS} (hc : PT X c tc) (ha : PSs X sa t) (hb : PSs X sb u) : PS X (.If c sa sb pos) (cIfS tc t u) := by
 intro pins s σ H D I h
 refine wpAny_If (thn (hc pins s σ H _ I h) fun d s1 ⟨H1, I1, q1⟩ => ?_)
 cases d with
 | true => exact ha pins s1 σ H1 D I1 (q1.1 rfl)
 | false => exact hb pins s1 σ H1 D I1 (q1.2 rfl)
end
section
variable {X : Cx} {es : List Expr} {t : TA} {pos : Pos}
theorem few {n : Nat} (h : Nat.ble n 64 = true) : n ≤ sizeLine := Nat.le_trans (Nat.le_of_ble_eq_true h) (by decide)
def cTup (t : TA) : TE := fun σ H Q => t σ H fun xs H1 => match Nat.ble xs.length 64 with | true => ∀ p, H1 p = none → Q (.ref p) (upd H1 p (.tup xs)) | false => False
def cLst (t : TA) : TE := fun σ H Q => t σ H fun xs H1 => match Nat.ble xs.length 64 with | true => ∀ p, H1 p = none → Q (.ref p) (upd H1 p (.lst xs)) | false => False
theorem c_tup {x1} (h : PA X es t) : PE X (.Tuple es x1 pos) (cTup t) := by
 intro pins s σ H Q I hq
 refine wpAny_Tuple_spliced (thn (h pos pins s σ H _ I hq) fun us s1 ⟨xs, H1, I1, r, q⟩ => ?_)
 dsimp only at q
 split at q
 ·rename_i z
  refine ⟨by rw [← r.length]; exact few z, ?_⟩
  have hf : H1 s1.heap.objs.size = none := I1.hok.fresh (Nat.le_refl _)
  refine ⟨.ref s1.heap.objs.size, upd H1 s1.heap.objs.size (.tup xs), I1.laid (t' := s1.toks) (fun b u e => Heap.get?_push_of_some _ e) (Nat.le_refl _) ?_, rfl, q _ hf⟩
  exact ⟨few z, us, r, ⟨_, Heap.get?_push_size _ rfl, rfl, _, rfl⟩⟩
 ·exact q.elim
theorem c_lst (h : PA X es t) : PE X (.List es pos) (cLst t) := by
 intro pins s σ H Q I hq
 refine wpAny_List_spliced (thn (h pos pins s σ H _ I hq) fun us s1 ⟨xs, H1, I1, r, q⟩ => ?_)
 dsimp only at q
 split at q
 ·rename_i z
  refine ⟨by rw [← r.length]; exact few z, ?_⟩
  have hf : H1 s1.heap.objs.size = none := I1.hok.fresh (Nat.le_refl _)
  refine ⟨.ref s1.heap.objs.size, upd H1 s1.heap.objs.size (.lst xs), I1.laid (t' := s1.toks) (fun b u e => Heap.get?_push_of_some _ e) (Nat.le_refl _) ?_, rfl, q _ hf⟩
  exact ⟨few z, us, 0, r, Heap.get?_push_size _ rfl⟩
 ·exact q.elim
end
section
variable {P : Program} {w : World} {K : PySem.W.Frag} {mg : Str → Option Value} {base : Heap}
structure Fn (P : Program) (w : World) (K : PySem.W.Frag) (mg : Str → Option Value) (base : Heap) (n : Nat) (x : Str) (ps : List Str) (sp : Sp) : Prop where
 ex : ∃ (f : Addr) (fd : FuncData), FnOk P w K mg base CX0 n f fd ps sp ∧ mg x = some (.ref f) ∧ PySem.W.keepIn K (.ref f) = true ∧ Binds K fd ps []
structure Df (K : PySem.W.Frag) (mg : Str → Option Value) (x : Str) (st : Stmt) (ps : List Str) : Prop where
 ex : ∃ (f : Addr) (fd : FuncData), Fun K x x st f fd ∧ mg x = some (.ref f) ∧ Binds K fd ps []
theorem Df.fn {x : Str} {st : Stmt} {N ps : List Str} {k : Nat} {sp : Sp} (F : Df K mg x st ps) (S : FnScope N ps (defScope st)) (len : ∀ vs H Q E, sp vs H Q E → vs.length = ps.length)
  (hbody : ∀ (f : Addr) (cdv : Value) (A : Around) (outer : List Env) (s : Shared) (H : Hp) (vs : List V) (Q : VK) (E : XK), Room k (A.deeper (envOfC x (defScope st) s.heap.objs.size f cdv)) → sp vs H Q E →
   ∃ t, PSs (cxOf CX0 P w K mg base N x (defScope st) f cdv A outer s H E).nox (defBody st) t ∧ t { nx := fun _ H' => Q .non H', rt := Q } (start N vs) H) : Fn P w K mg base (k + 1) x ps sp := by
 obtain ⟨f, fd, hF, hm, hb⟩ := F.ex
 exact ⟨f, fd, hF.ok S len fun cdv A outer s H vs Q E hr h => hbody f cdv A outer s H vs Q E hr h, hm, hF.kp, hb⟩
def cCall (sp : Sp) (t : TA) : TE := fun σ H Q => t σ H fun vs H1 => sp vs H1 Q E0
theorem c_call {X : Cx} {n : Nat} {x : Str} {ps : List Str} {sp : Sp} {e : Expr} {es : List Expr} {t : TA} {p pos : Pos} (F : Fn X.prog X.w X.K X.mg X.base n x ps sp) (hr : Room n X.A) (hg : Gl X x) (ha : PA X (e :: es) t)
  (hdb : (x == ("__debug__" : Str)) = false := by decide) (he : starEach (e :: es) X.env = (false, eval e X.env) :: starEach es X.env := by rfl) (hpl : (backTo pos (starEach es X.env)).any (·.1) = false := by rfl) :
  PE X (.Call (.Name x p) (e :: es) [] pos) (cCall sp t) := by
 obtain ⟨f, fd, F, hm, hk, hb⟩ := F.ex
 refine (pe_call (dvs := []) (E := E0) F hr hg hm hk hb .nil pass0 ha hdb he hpl).weak fun σ H Q q => ?_
 have e : ∀ vs : List V, vs ++ [] = vs := fun vs => List.append_nil vs
 show t σ H fun vs H1 => sp (vs ++ []) H1 Q E0
 simp only [e]
 exact q
end
end L2

end

section
namespace L2
open PySem PySem.Spec PyProof.Rows
def DK (kvs : List (PyData × PyData)) (ks : List (Key × V)) : Prop := (kvs = [] ∧ ks = []) ∨ (kvs = [(.int 0, .int 1)] ∧ ks = [(.inl 0, .int 1)])
mutual
def Rep (p : Addr) (H : Hp) : PyData → V → Prop
 | .none, v => v = .non
 | .bool b, v => v = .bl b
 | .int i, v => v = .int i
 | .str x, v => v = .str x
 | .tuple ds, v => ∃ a xs, v = .ref a ∧ H a = some (.tup xs) ∧ Reps p H ds xs
 | .list ds, v => ∃ a xs, v = .ref a ∧ a ≠ p ∧ H a = some (.lst xs) ∧ Reps p H ds xs
 | .dict kvs, v => ∃ a ks, v = .ref a ∧ a ≠ p ∧ DK kvs ks ∧ H a = some (.dK ks)
def Reps (p : Addr) (H : Hp) : List PyData → List V → Prop
 | [], xs => xs = []
 | d :: ds, xs => ∃ x r, xs = x :: r ∧ Rep p H d x ∧ Reps p H ds r
end
def Ev (p : Addr) (H H' : Hp) : Prop := ∀ b o, H b = some o → (b = p ∧ ∃ xs, o = .lst xs) ∨ H' b = some o
theorem Ev.refl {p : Addr} {H : Hp} : Ev p H H := fun _ _ h => .inr h
theorem Ev.same {p : Addr} {H H' : Hp} (h : Same H H') : Ev p H H' := fun b o q => .inr (h b o q)
theorem Ev.trans {p : Addr} {H H1 H2 : Hp} (h : Ev p H H1) (h' : Ev p H1 H2) : Ev p H H2 := fun b o q => (h b o q).elim .inl fun r => h' b o r
theorem Ev.tup {p a : Addr} {H H' : Hp} {xs : List V} (h : Ev p H H') (q : H a = some (.tup xs)) : H' a = some (.tup xs) := (h a _ q).elim (fun ⟨_, ys, e⟩ => nomatch e) id
theorem Ev.lst {p a : Addr} {H H' : Hp} {xs : List V} (h : Ev p H H') (q : H a = some (.lst xs)) (n : a ≠ p) : H' a = some (.lst xs) := (h a _ q).elim (fun ⟨e, _⟩ => absurd e n) id
theorem Ev.dk {p a : Addr} {H H' : Hp} {ks : List (Key × V)} (h : Ev p H H') (q : H a = some (.dK ks)) : H' a = some (.dK ks) := (h a _ q).elim (fun ⟨_, ys, e⟩ => nomatch e) id
theorem Ev.new {p a : Addr} {H : Hp} {o : HO} (h : H a = none) : Ev p H (upd H a o) := fun b u q => .inr (by rw [upd_ne (ne_of_none q h)]; exact q)
theorem Ev.pen {p : Addr} {H : Hp} {o : HO} {xs : List V} (h : H p = some (.lst xs)) : Ev p H (upd H p o) := fun b u q => by
 by_cases e : b = p
 ·subst e; rw [h] at q; cases q; exact .inl ⟨rfl, xs, rfl⟩
 ·exact .inr (by rw [upd_ne e]; exact q)
theorem Same.new {a : Addr} {H : Hp} {o : HO} (h : H a = none) : Same H (upd H a o) := fun b u q => by rw [upd_ne (ne_of_none q h)]; exact q
mutual
theorem Rep.ev {p : Addr} {H H' : Hp} (h : Ev p H H') : ∀ (d : PyData) (v : V), Rep p H d v → Rep p H' d v
 | .none, v, q => q
 | .bool _, v, q => q
 | .int _, v, q => q
 | .str _, v, q => q
 | .tuple ds, v, q => by
  unfold Rep at q ⊢
  obtain ⟨a, xs, e, r, z⟩ := q
  exact ⟨a, xs, e, h.tup r, Reps.ev h ds xs z⟩
 | .list ds, v, q => by
  unfold Rep at q ⊢
  obtain ⟨a, xs, e, n, r, z⟩ := q
  exact ⟨a, xs, e, n, h.lst r n, Reps.ev h ds xs z⟩
 | .dict kvs, v, q => by
  unfold Rep at q ⊢
  obtain ⟨a, ks, e, n, k, r⟩ := q
  exact ⟨a, ks, e, n, k, h.dk r⟩
theorem Reps.ev {p : Addr} {H H' : Hp} (h : Ev p H H') : ∀ (ds : List PyData) (xs : List V), Reps p H ds xs → Reps p H' ds xs
 | [], xs, q => by unfold Reps at q ⊢; exact q
 | d :: ds, xs, q => by
  unfold Reps at q ⊢
  obtain ⟨x, r, e, z, zs⟩ := q
  exact ⟨x, r, e, Rep.ev h d x z, Reps.ev h ds r zs⟩
end
theorem Reps.len {p : Addr} {H : Hp} : ∀ {ds : List PyData} {xs : List V}, Reps p H ds xs → ds.length = xs.length
 | [], xs, q => by unfold Reps at q; subst q; rfl
 | d :: ds, xs, q => by
  unfold Reps at q
  obtain ⟨x, r, e, z, zs⟩ := q
  subst e
  simp [Reps.len zs]
theorem Reps.get {p : Addr} {H : Hp} : ∀ {ds : List PyData} {xs : List V} {i : Nat} {d : PyData}, Reps p H ds xs → ds[i]? = some d → ∃ x, xs[i]? = some x ∧ Rep p H d x
 | [], xs, i, d, q, e => by simp at e
 | d :: ds, xs, 0, d', q, e => by
  unfold Reps at q
  obtain ⟨x, r, rfl, z, zs⟩ := q
  simp at e; subst e
  exact ⟨x, rfl, z⟩
 | d :: ds, xs, i + 1, d', q, e => by
  unfold Reps at q
  obtain ⟨x, r, rfl, z, zs⟩ := q
  obtain ⟨y, hy, ry⟩ := Reps.get (i := i) zs (by simpa using e)
  exact ⟨y, by simpa using hy, ry⟩
theorem Reps.got {p : Addr} {H : Hp} : ∀ {ds : List PyData} {xs : List V} {i : Nat} {x : V}, Reps p H ds xs → xs[i]? = some x → ∃ d, ds[i]? = some d ∧ Rep p H d x
 | [], xs, i, x, q, e => by unfold Reps at q; subst q; simp at e
 | d :: ds, xs, 0, x', q, e => by
  unfold Reps at q
  obtain ⟨x, r, rfl, z, zs⟩ := q
  simp at e; subst e
  exact ⟨d, rfl, z⟩
 | d :: ds, xs, i + 1, x', q, e => by
  unfold Reps at q
  obtain ⟨x, r, rfl, z, zs⟩ := q
  obtain ⟨y, hy, ry⟩ := Reps.got (i := i) zs (by simpa using e)
  exact ⟨y, by simpa using hy, ry⟩
theorem Reps.nil {p : Addr} {H : Hp} : Reps p H [] [] := by unfold Reps; rfl
theorem Reps.cons {p : Addr} {H : Hp} {d : PyData} {ds : List PyData} {x : V} {xs : List V} (h : Rep p H d x) (r : Reps p H ds xs) : Reps p H (d :: ds) (x :: xs) := by unfold Reps; exact ⟨x, xs, rfl, h, r⟩
theorem Reps.append {p : Addr} {H : Hp} : ∀ {ds es : List PyData} {xs ys : List V}, Reps p H ds xs → Reps p H es ys → Reps p H (ds ++ es) (xs ++ ys)
 | [], _, xs, _, q, r => by unfold Reps at q; subst q; exact r
 | d :: ds, _, xs, _, q, r => by
  unfold Reps at q
  obtain ⟨x, t, rfl, z, zs⟩ := q
  exact .cons z (Reps.append zs r)
theorem Rep.tup {p a : Addr} {H : Hp} {ds : List PyData} {xs : List V} (h : H a = some (.tup xs)) (r : Reps p H ds xs) : Rep p H (.tuple ds) (.ref a) := by unfold Rep; exact ⟨a, xs, rfl, h, r⟩
theorem Rep.int {p : Addr} {H : Hp} {i : Int} : Rep p H (.int i) (.int i) := by unfold Rep; rfl
theorem Rep.str {p : Addr} {H : Hp} {i : Str} : Rep p H (.str i) (.str i) := by unfold Rep; rfl
theorem Rep.non {p : Addr} {H : Hp} : Rep p H .none .non := by unfold Rep; rfl
def TyIs (x : V) (H : Hp) (n : String) : Prop := match x with
 | .non => n = "NoneType" | .bl _ => n = "bool" | .int _ => n = "int" | .str _ => n = "str"
 | .ref a => (n = "tuple" ∧ ∃ xs, H a = some (.tup xs)) ∨ (n = "list" ∧ ∃ xs, H a = some (.lst xs)) ∨ (n = "dict" ∧ ∃ kvs, H a = some (.dK kvs))
 | _ => False
def tyD : PyData → String
 | .none => "NoneType" | .bool _ => "bool" | .int _ => "int" | .str _ => "str" | .tuple _ => "tuple" | .list _ => "list" | .dict _ => "dict"
def isSub (n T : String) : Bool := n == T || (n == "bool" && T == "int")
theorem Rep.ty {p : Addr} {H : Hp} {v : V} : ∀ {d : PyData}, Rep p H d v → TyIs v H (tyD d)
 | .none, q => by unfold Rep at q; subst q; rfl
 | .bool _, q => by unfold Rep at q; subst q; rfl
 | .int _, q => by unfold Rep at q; subst q; rfl
 | .str _, q => by unfold Rep at q; subst q; rfl
 | .tuple ds, q => by unfold Rep at q; obtain ⟨a, xs, rfl, h, _⟩ := q; exact .inl ⟨rfl, xs, h⟩
 | .list ds, q => by unfold Rep at q; obtain ⟨a, xs, rfl, _, h, _⟩ := q; exact .inr (.inl ⟨rfl, xs, h⟩)
 | .dict kvs, q => by unfold Rep at q; obtain ⟨a, ks, rfl, _, _, h⟩ := q; exact .inr (.inr ⟨rfl, ks, h⟩)
def rIsi : List V → Hp → VK → Prop := fun xs H Q => match xs with
 | [x, .ty T] => ∃ n, TyIs x H n ∧ (T = "int" ∨ T = "bool" ∨ T = "tuple" ∨ T = "list" ∨ T = "str") ∧ Q (.bl (isSub n T)) H
 | _ => False
section
variable {X : Cx}
theorem boot_int : bootBuiltins "int" = some (.type "int") := by decide +kernel
theorem boot_bool : bootBuiltins "bool" = some (.type "bool") := by decide +kernel
theorem boot_tuple' : bootBuiltins "tuple" = some (.type "tuple") := by decide +kernel
theorem call_isi : CallR X (.builtin "isinstance") rIsi := by
 intro pins s σ H xs us Q I r h
 unfold rIsi at h
 split at h
 ·rename_i x T
  obtain ⟨n, ht, hT, q⟩ := h
  obtain ⟨u, v, rfl, ru, rv⟩ := r.two
  cases rv
  have yes : ∀ s' : Shared, Inv X pins σ H s' → isSub n T = true → EP X pins σ Q (.bool true) s' := fun s' I' e => ⟨.bl true, H, I', rfl, by rw [e] at q; exact q⟩
  have no : isSub n T = false → EP X pins σ Q (.bool false) { s with toks := s.toks + 1 } := fun e => ⟨.bl false, H, I.tok _, rfl, by rw [e] at q; exact q⟩
  cases x with
  | non =>
   have e : n = "NoneType" := ht
   subst e; cases ru
   rcases hT with rfl | rfl | rfl | rfl | rfl
   ·exact IsiPair.NoneType_int (no rfl)
   ·exact IsiPair.NoneType_bool (no rfl)
   ·exact IsiPair.NoneType_tuple (no rfl)
   ·exact IsiPair.NoneType_list (no rfl)
   ·exact IsiPair.NoneType_str (no rfl)
  | bl k =>
   have e : n = "bool" := ht
   subst e; cases ru
   rcases hT with rfl | rfl | rfl | rfl | rfl
   ·exact IsiPair.bool_int (yes _ I rfl)
   ·exact IsiPair.bool_bool (yes _ I rfl)
   ·exact IsiPair.bool_tuple (no rfl)
   ·exact IsiPair.bool_list (no rfl)
   ·exact IsiPair.bool_str (no rfl)
  | int k =>
   have e : n = "int" := ht
   subst e; obtain ⟨t, rfl⟩ := ru
   rcases hT with rfl | rfl | rfl | rfl | rfl
   ·exact IsiPair.int_int (yes _ I rfl)
   ·exact IsiPair.int_bool (no rfl)
   ·exact IsiPair.int_tuple (no rfl)
   ·exact IsiPair.int_list (no rfl)
   ·exact IsiPair.int_str (no rfl)
  | str k =>
   have e : n = "str" := ht
   subst e; obtain ⟨t, rfl⟩ := ru
   rcases hT with rfl | rfl | rfl | rfl | rfl
   ·exact IsiPair.str_int (no rfl)
   ·exact IsiPair.str_bool (no rfl)
   ·exact IsiPair.str_tuple (no rfl)
   ·exact IsiPair.str_list (no rfl)
   ·exact IsiPair.str_str (yes _ I rfl)
  | ref a =>
   cases ru
   have ht' : (n = "tuple" ∧ ∃ xs, H a = some (.tup xs)) ∨ (n = "list" ∧ ∃ xs, H a = some (.lst xs)) ∨ (n = "dict" ∧ ∃ kvs, H a = some (.dK kvs)) := ht
   rcases ht' with ⟨e, xs, hx⟩ | ⟨e, xs, hx⟩ | ⟨e, xs, hx⟩
   ·subst e
    obtain ⟨_, its, _, o, ho, hc, _⟩ := I.hok a _ hx
    rcases hT with rfl | rfl | rfl | rfl | rfl
    ·exact IsiPair.tuple_int ho hc (no rfl)
    ·exact IsiPair.tuple_bool ho hc (no rfl)
    ·exact IsiPair.tuple_tuple ho hc (yes _ I rfl)
    ·exact IsiPair.tuple_list ho hc (no rfl)
    ·exact IsiPair.tuple_str ho hc (no rfl)
   ·subst e
    obtain ⟨_, its, k, _, ho⟩ := I.hok a _ hx
    rcases hT with rfl | rfl | rfl | rfl | rfl
    ·exact IsiPair.list_int ho rfl (no rfl)
    ·exact IsiPair.list_bool ho rfl (no rfl)
    ·exact IsiPair.list_tuple ho rfl (no rfl)
    ·exact IsiPair.list_list ho rfl (yes _ I rfl)
    ·exact IsiPair.list_str ho rfl (no rfl)
   ·subst e
    obtain ⟨_, _, vs, _, o, es, ep, ho, hc, _⟩ := I.hok a _ hx
    have hc' : o.cls = .type "dict" := hc.1
    rcases hT with rfl | rfl | rfl | rfl | rfl
    ·exact IsiPair.dict_int ho hc' (no rfl)
    ·exact IsiPair.dict_bool ho hc' (no rfl)
    ·exact IsiPair.dict_tuple ho hc' (no rfl)
    ·exact IsiPair.dict_list ho hc' (no rfl)
    ·exact IsiPair.dict_str ho hc' (no rfl)
  | byt _ => exact (show False from ht).elim
  | flt _ => exact (show False from ht).elim
  | ty _ => exact (show False from ht).elim
 ·exact h.elim
theorem call_all (hc : X.calm = true) : CallR X (.builtin "all") (fun xs H Q => ∃ (p : Addr) (bs : List Bool), xs = [.ref p] ∧ H p = some (.lst (bs.map V.bl)) ∧ Q (.bl (bs.all id)) H) := by
 intro pins s σ H xs us Q I r h
 obtain ⟨p, bs, rfl, hp, q⟩ := h
 obtain ⟨u, rfl, ru⟩ := r.one
 cases ru
 obtain ⟨its, rv, pl, hz⟩ := I.list (SqL.of hp)
 refine call_all_walk (wpAny_pyIter_list pl.isList ?_)
 obtain ⟨ol, _, hol, _⟩ := id pl
 have hlt := Heap.lt_size hol
 refine ⟨s.heap.objs.size, _, _, _, _, _, fun i => bs.getD i false, rfl, Walks.list (A := X.A.in1) (I.ok.hd hc) s.heap.objs.size p (Nat.ne_of_lt hlt) its.toArray, ⟨⟨_, Heap.get?_push_size _ rfl, rfl, rfl⟩, ?_⟩, fun i v s' Q' E' hi hq => ?_, fun h' tk hk => ?_⟩
 ·exact pl.isList.at fun o e => Heap.get?_push_of_some _ e
 ·have hi' : its[i]? = some v := by simpa using hi
  have hl := rv.length
  have hb : i < bs.length := by have := (List.getElem?_eq_some_iff.mp hi').1; simp at hl; omega
  obtain ⟨u, hu, ru⟩ := rv.get (i := i) (x := .bl bs[i]) (by simp [hb])
  rw [hi'] at hu; cases hu; cases ru
  dsimp only at hq; rw [List.getD_eq_getElem?_getD, List.getElem?_eq_getElem hb] at hq
  exact wpAny_truthy_bool hq
 ·have hl := rv.length
  simp at hl
  have e : (List.range its.toArray.size).all (fun i => bs.getD i false) = bs.all id := by
   rw [List.size_toArray, ← hl, Bool.eq_iff_iff]
   simp only [List.all_eq_true, List.mem_range, id]
   constructor
   ·intro h x hx
    obtain ⟨i, hi, e⟩ := List.mem_iff_getElem.mp hx
    have := h i hi
    rw [List.getD_eq_getElem?_getD, List.getElem?_eq_getElem hi] at this
    rw [← e]; exact this
   ·intro h i hi
    rw [List.getD_eq_getElem?_getD, List.getElem?_eq_getElem hi]
    exact h _ (List.getElem_mem hi)
  rw [e]
  refine ⟨.bl (bs.all id), H, I.kept fun b o eb => hk b o ?_ (Heap.get?_push_of_some _ eb), rfl, q⟩
  intro z
  have z' : b = s.heap.objs.size := by simpa using z
  exact absurd (Heap.lt_size eb) (by rw [z']; exact Nat.lt_irrefl _)
end
end L2

end

section
namespace L2
open PySem PySem.Spec PyProof.Rows
open AutoSeq1 (wpAny_loadPart')
section
variable {X : Cx}
def Got (H : Hp) (xs : List V) (Q : VK) : Prop := ∀ r H', Same H H' → H' r = some (.tup xs) → Q (.ref r) H'
theorem Inv.gotNew {pins : List (Addr × Obj)} {σ : St} {H : Hp} {s : Shared} {Q : VK} {xs : List V} {us : List Value} {t' : Nat} (I : Inv X pins σ H s) (q : Got H xs Q) (rv : Vals xs us) (hz : xs.length ≤ sizeLine) :
  EP X pins σ Q (.ref s.heap.objs.size) { s with heap := s.heap.push { cls := .type "tuple", data := .seq us.toArray }, toks := t' } :=
 ⟨.ref s.heap.objs.size, _, I.laid (o := .tup xs) (fun b ob e => Heap.get?_push_of_some _ e) (Nat.le_refl _) ⟨hz, us, rv, IsTup.new _ _⟩, rfl, q _ _ (Same.new (I.hok.fresh (Nat.le_refl _))) upd_same⟩
def rCat2 : R2 := fun x y H Q => ∃ a b xs ys, x = .ref a ∧ y = .ref b ∧ H a = some (.tup xs) ∧ H b = some (.tup ys) ∧ xs.length + ys.length ≤ 1000 ∧ Got H (xs ++ ys) Q
theorem o_catT : OpR X (binaryOp .Add) rCat2 := by
 intro pins s σ H x y v u Q I rx ry h
 obtain ⟨a, b, xs, ys, rfl, rfl, ha, hb, hz, q⟩ := h
 cases rx; cases ry
 obtain ⟨its, r1, ht, _⟩ := I.tuple (SqT.of ha)
 obtain ⟨its2, r2, ht2, _⟩ := I.tuple (SqT.of hb)
 obtain ⟨⟨cls, dd, data, sl⟩, ho, hc, n, hd⟩ := id ht; obtain ⟨⟨cls2, dd2, data2, sl2⟩, ho2, hc2, n2, hd2⟩ := id ht2; simp only at hc hd hc2 hd2; subst hc hd hc2 hd2
 have hl1 := r1.length; have hl2 := r2.length
 have hs : (1000 : Nat) ≤ sizeLine := by decide
 by_cases hv : its = []
 ·have e : xs = [] := by subst hv; cases r1; rfl
  refine concat_meets ⟨_, ho, rfl⟩ ⟨_, ho2, rfl⟩ noFill_tuple_add seq_tuple_add PySem.F.slot_tuple_add PySem.F.entry_tuple_add (PySem.F.args_tuple_add_2 _ _) (tuple_addW0 a b its.toArray its2.toArray n n2 dd dd2 sl sl2 (by simp [hv])) ⟨ho, ho2, ?_⟩
  exact ⟨.ref b, H, I, rfl, q b H (Same.refl _) (by rw [e]; exact hb)⟩
 ·by_cases hw : its2 = []
  ·have e : ys = [] := by subst hw; cases r2; rfl
   refine concat_meets ⟨_, ho, rfl⟩ ⟨_, ho2, rfl⟩ noFill_tuple_add seq_tuple_add PySem.F.slot_tuple_add PySem.F.entry_tuple_add (PySem.F.args_tuple_add_2 _ _) (tuple_addW1 a b its.toArray its2.toArray n n2 dd dd2 sl sl2 (by simpa using hv) (by simp [hw])) ⟨ho, ho2, ?_⟩
   exact ⟨.ref a, H, I, rfl, q a H (Same.refl _) (by rw [e, List.append_nil]; exact ha)⟩
  ·refine concat_meets ⟨_, ho, rfl⟩ ⟨_, ho2, rfl⟩ noFill_tuple_add seq_tuple_add PySem.F.slot_tuple_add PySem.F.entry_tuple_add (PySem.F.args_tuple_add_2 _ _)
    (tuple_addW2 a b its.toArray its2.toArray n n2 dd dd2 sl sl2 (by simpa using hv) (by simpa using hw) (by rw [List.size_toArray, List.size_toArray]; omega)) ⟨ho, ho2, ?_⟩
   have e : its.toArray ++ its2.toArray = (its ++ its2).toArray := by simp
   rw [e]
   exact I.gotNew (t' := s.toks) q (r1.append r2) (by rw [List.length_append]; omega)
theorem whole_cut {t sl : Addr} {items : Array Value} {vl vu : Value} {lo hi : Option Int} {Q : Value → Shared → Prop} {prog : Program} {w : World} {A : Around} {E : Value → Shared → Prop} {s : Shared} (ht : IsTup s.heap t items) (hs : s.heap.IsSliceOf sl vl vu .none) (pl : IsPart vl lo) (pu : IsPart vu hi)
  (hw : HT.sIx items.size 0 lo = 0 ∧ HT.sIx items.size items.size hi = items.size) (h : Q (.ref t) s) : wpAny (model prog w) A (getItem (.ref t) (.ref sl)) Q E s := by
 obtain ⟨os, hos, hcs, hds⟩ := id hs
 have hTs : s.TypeIs (.ref sl) "slice" := ⟨os, hos, hcs⟩
 unfold getItem
 try with_reducible refine wpAny_holding ?_
 first | refine wpAny_bind (wpAny_pure ?_) | skip
 refine wpAny_bind (wpAny_sequenceKey ht.typeIs (by decide) ?_)
 refine wpAny_bind (wpAny_callSpecial?_slot (name := Str.ofString "__getitem__") ht.typeIs PyProof.Rows.slot_tuple_getitem (wpAny_call_entry PyProof.Rows.slot_tuple_getitem ht.typeIs entry_tuple_getitem ?_ (args_tuple_getitem _ _)))
 show wpAny _ _ (Builtin.Tuple.tupleItemsOf (.ref t) >>= _) _ _ s; refine wpAny_bind (tupleItemsOf_ ht ?_); refine wpAny_bind (wpAny_typeOf hTs ?_); rw [if_pos (by decide)]
 refine wpAny_bind (HT.sliceApplied_gen hs pl pu ?_)
 rw [hw.1, hw.2]
 show wpAny _ _ (if (((0 : Nat) : Int) == 0 && (1 : Int) == 1 && (items.size - 0) == items.size) = true then _ else _) _ _ s
 rw [if_pos (by simp)]
 refine wpAny_bind (m := Builtin.Tuple.tupleIsExact _) ?_
 unfold Builtin.Tuple.tupleIsExact
 refine wpAny_bind (wpAny_typeOf ht.typeIs (wpAny_pure ?_))
 rw [if_pos (by decide)]
 exact wpAny_bind (wpAny_rule (wpAny_pure ⟨_, rfl, wpAny_pure h⟩))
def rSl2 : V → Option Int → Option Int → Hp → VK → Prop := fun x lo hi H Q => ∃ a xs, x = .ref a ∧ H a = some (.tup xs) ∧ Got H (cutV xs lo hi) Q
theorem s_tup : SlR X rSl2 := by
 intro pins s σ H x v vl vu lo hi sl Q I rx hs pl pu h
 obtain ⟨a, xs, rfl, ha, q⟩ := h
 cases rx
 obtain ⟨its, r, ht, hz⟩ := I.tuple (SqT.of ha)
 have hlen : its.toArray.size = xs.length := by rw [List.size_toArray]; exact r.length.symm
 refine ⟨"tuple", _, PyProof.Rows.slot_tuple_getitem.lookup, ht.typeIs, ?_⟩
 by_cases hw : HT.sIx xs.length 0 lo = 0 ∧ HT.sIx xs.length xs.length hi = xs.length
 ·refine whole_cut ht hs pl pu (by rw [hlen]; exact hw) ⟨.ref a, H, I, rfl, q a H (Same.refl _) ?_⟩
  unfold cutV
  rw [hw.1, hw.2, List.drop_zero, Nat.sub_zero, List.take_length]
  exact ha
 ·refine HT.getItem_tuple_cut ht hs pl pu (by rw [hlen]; exact hw) ?_ (by rw [hlen]; exact hz)
  rw [hlen]
  have e : its.toArray.toList = its := rfl
  rw [e]
  exact I.gotNew (t' := s.toks) q ((r.drop _).take _) (Nat.le_trans (cutV_length xs lo hi) hz)
end
end L2

end

section
namespace L2
open PySem PySem.Spec PyProof.Rows
open AutoSeq1 (wpAny_loadPart')
section
variable {X : Cx}
theorem fm_congr {α β : Type} {f g : α → Option β} : ∀ (l : List α), (∀ k ∈ l, f k = g k) → l.filterMap f = l.filterMap g
 | [], _ => rfl
 | a :: l, h => by
  rw [List.filterMap_cons, List.filterMap_cons, h a List.mem_cons_self, fm_congr l fun k hk => h k (List.mem_cons_of_mem _ hk)]
theorem rev_pick (xs : List Value) : ((List.range xs.length).filterMap fun (k : Nat) => xs.toArray[(((xs.length : Int) - 1) + (k : Int) * (-1)).toNat]?).toArray = xs.reverse.toArray := by
 have e : ∀ k ∈ List.range xs.length, (fun (k : Nat) => xs.toArray[(((xs.length : Int) - 1) + (k : Int) * (-1)).toNat]?) k = xs.reverse[k]? := fun k hk => by
  have hk' := List.mem_range.mp hk
  have : (((xs.length : Int) - 1) + (k : Int) * (-1)).toNat = xs.length - 1 - k := by omega
  dsimp only
  rw [this, List.getElem?_reverse hk']
  simp
 rw [fm_congr _ e]
 congr 1
 have gen : ∀ (l : List Value) (n : Nat), n ≤ l.length → (List.range n).filterMap (fun k => l[k]?) = l.take n := fun l n => by
  induction n with
  | zero => intro _; simp
  | succ n ih =>
   intro hn
   rw [List.range_succ, List.filterMap_append, ih (by omega), List.take_add_one]
   rw [List.getElem?_eq_getElem (by omega)]
   simp [List.getElem?_eq_getElem (show n < l.length by omega)]
 have this : ∀ (l : List Value), (List.range l.length).filterMap (fun k => l[k]?) = l := fun l => by rw [gen l l.length (Nat.le_refl _), List.take_length]
 have := this xs.reverse
 rw [List.length_reverse] at this
 exact this
def wideD : List (PyData × PyData) → Nat | [] => 2 | [(.int i, .int j)] => if i = 0 ∧ j = 1 then 6 else 10 ^ 9 | _ => 10 ^ 9
mutual
/-- how long a text may become -/
def wide : PyData → Nat
 | .none => 4 | .bool _ => 5 | .int i => if i.natAbs < 10 ^ 31 then 40 else 10 ^ 9 | .str x => (reprText x).length
 | .tuple ds => wideAll ds + 4 | .list ds => wideAll ds + 4 | .dict kvs => wideD kvs
def wideAll : List PyData → Nat
 | [] => 0
 | d :: ds => wide d + 2 + wideAll ds
end
end
end L2

end

section
namespace L2
open PySem PySem.Spec PyProof.Rows
section
variable {X : Cx} {pins : List (Addr × Obj)} {σ : St} {H : Hp} {s : Shared}
mutual
theorem Rep.reads {p : Addr} (I : Inv X pins σ H s) : ∀ (d : PyData) (v : V) (u : Value), d.hasDict = false → Rep p H d v → RelV v u → ∃ as, Reads s.heap u d as
 | .none, v, u, _, r, q => by unfold Rep at r; subst r; cases q; exact ⟨_, .none⟩
 | .bool b, v, u, _, r, q => by unfold Rep at r; subst r; cases q; exact ⟨_, .bool b⟩
 | .int i, v, u, _, r, q => by unfold Rep at r; subst r; obtain ⟨t, rfl⟩ := q; exact ⟨_, .int i t⟩
 | .str x, v, u, _, r, q => by unfold Rep at r; subst r; obtain ⟨t, rfl⟩ := q; exact ⟨_, .str x t⟩
 | .tuple ds, v, u, hd, r, q => by
  unfold Rep at r
  obtain ⟨a, xs, rfl, ha, rs⟩ := r
  cases q
  obtain ⟨its, rv, ⟨o, ho, hc, n, hdt⟩, _⟩ := I.tuple (SqT.of ha)
  obtain ⟨as, ra⟩ := Reps.reads I ds xs its (by unfold PyData.hasDict at hd; exact hd) rs rv
  exact ⟨as, .tuple ho hc hdt ra⟩
 | .list ds, v, u, hd, r, q => by
  unfold Rep at r
  obtain ⟨a, xs, rfl, _, ha, rs⟩ := r
  cases q
  obtain ⟨its, rv, ⟨o, n, ho, hc, _, hdt⟩, _⟩ := I.list (SqL.of ha)
  obtain ⟨as, ra⟩ := Reps.reads I ds xs its (by unfold PyData.hasDict at hd; exact hd) rs rv
  exact ⟨a :: as, .list ho hc hdt ra⟩
 | .dict kvs, v, u, hd, _, _ => by unfold PyData.hasDict at hd; cases hd
theorem Reps.reads {p : Addr} (I : Inv X pins σ H s) : ∀ (ds : List PyData) (xs : List V) (us : List Value), PyData.hasDictAll ds = false → Reps p H ds xs → Vals xs us → ∃ as, ReadsAll s.heap us ds as
 | [], xs, us, _, r, q => by unfold Reps at r; subst r; cases q; exact ⟨_, .nil⟩
 | d :: ds, xs, us, hd, r, q => by
  unfold Reps at r
  obtain ⟨x, t, rfl, rx, rt⟩ := r
  unfold PyData.hasDictAll at hd
  obtain ⟨h1, h2⟩ := Bool.or_eq_false_iff.mp hd
  cases q with
  | cons q1 q2 =>
   obtain ⟨as, ra⟩ := Rep.reads I d x _ h1 rx q1
   obtain ⟨bs, rb⟩ := Reps.reads I ds t _ h2 rt q2
   exact ⟨as ++ bs, .cons ra rb⟩
end
mutual
/-- data without lists -/
def noLst : PyData → Bool
 | .list _ => false | .tuple ds => noLsts ds | .none => true | .bool _ => true | .int _ => true | .str _ => true | .dict _ => true
def noLsts : List PyData → Bool
 | [] => true
 | d :: ds => noLst d && noLsts ds
end
structure Nice (d : PyData) : Prop where
 w : wide d ≤ 1000000
 dp : d.depth ≤ 20
 nd : d.hasDict = false ∨ noLst d = true
theorem Inv.big (I : Inv X pins σ H s) : sysModules < s.heap.objs.size := by
 have h : mainGlobals < s.heap.objs.size := (I.mod.glob.keeps I.bk).lt
 exact Nat.lt_trans (by decide) h
end
end L2

end

section
namespace L2
open PySem PySem.Spec PyProof.Rows
section
variable {X : Cx} {P : Program} {w : World}
theorem ixL (K : PySem.W.Frag) (h : X.K = K := by rfl) : IxR X (rIxL K) := h ▸ ix_list
theorem ixT (K : PySem.W.Frag) (h : X.K = K := by rfl) : IxR X (rIxT K) := h ▸ ix_tup
theorem slL (K : PySem.W.Frag) (h : X.K = K := by rfl) : SlR X (rSlL K) := h ▸ sl_list
theorem inS (K : PySem.W.Frag) (h : X.K = K := by rfl) : OpR X (compareOp .In) (rIn K false) := h ▸ op_in_seq
def rLen (K : PySem.W.Frag) : List V → Hp → VK → Prop := fun xs H Q => ∃ p ys, xs = [.ref p] ∧ (SqL K H p ys ∨ SqT K H p ys) ∧ Q (.int (ys : List V).length) H
theorem lenS (K : PySem.W.Frag) (h : X.K = K := by rfl) : CallR X (.builtin "len") (rLen K) := h ▸ call_len_seq
def rTupOf (K : PySem.W.Frag) : List V → Hp → VK → Prop := fun xs H Q => ∃ p ys, xs = [.ref p] ∧ ((SqL K H p ys ∧ ∀ l, H l = none → Q (.ref l) (upd H l (.tup ys))) ∨ (SqT K H p ys ∧ Q (.ref p) H))
theorem tupOf (K : PySem.W.Frag) (h : X.K = K := by rfl) : CallR X (.type "tuple") (rTupOf K) := h ▸ call_tuple_of
theorem pgT (K : PySem.W.Frag) {es : List Expr} {k : Nat} {t : TGs} {n : Nat} {pos : Pos} (h : PGs X es t) (hK : X.K = K := by rfl) (hc : X.calm = true := by rfl) (hn : (assignEach es X.env).length = n := by rfl) (hst : (assignEach es X.env).findIdx? (·.1) = none := by rfl) :
  PG X (.Tuple es k pos) (gTup K n t) := hK ▸ pg_tup hc h hn hst
theorem piL (K : PySem.W.Frag) {tg l : Expr} {tl : TE} (hl : PE X l tl) (h : X.K = K := by rfl) : PI X tg l (iList K tl) := h ▸ pi_list hl
theorem piT (K : PySem.W.Frag) {tg l : Expr} {tl : TE} (hl : PE X l tl) (h : X.K = K := by rfl) : PI X tg l (iTup K tl) := h ▸ pi_tup hl
theorem piET (P : Program) (w : World) (K : PySem.W.Frag) {es : List Expr} {k : Nat} {p pos pos' : Pos} {a : Expr} {ta : TA} (hg : Gl X "enumerate") (hm : X.mg "enumerate" = none) (ha : PA X [a] ta) (hP : X.prog = P := by rfl) (hw : X.w = w := by rfl) (hK : X.K = K := by rfl) (hs : starEach [a] X.env = [(false, eval a X.env)] := by rfl) :
  PI X (.Tuple es k pos') (.Call (.Name "enumerate" p) [a] [] pos) (iEnum (seqT P w K) ta) := by subst hP hw hK; exact pi_enumT hg hm ha hs
theorem piZTT (P : Program) (w : World) (K : PySem.W.Frag) {es : List Expr} {k : Nat} {p pos pos' : Pos} {e1 e2 : Expr} {ta : TA} (hg : Gl X "zip") (hm : X.mg "zip" = none) (ha : PA X [e1, e2] ta) (hP : X.prog = P := by rfl) (hw : X.w = w := by rfl) (hK : X.K = K := by rfl)
  (hs : starEach [e1, e2] X.env = [(false, eval e1 X.env), (false, eval e2 X.env)] := by rfl) (hs2 : starEach [e2] X.env = [(false, eval e2 X.env)] := by rfl) :
  PI X (.Tuple es k pos') (.Call (.Name "zip" p) [e1, e2] [] pos) (iZip (seqT P w K) (seqT P w K) ta) := by subst hP hw hK; exact pi_zipTT hg hm ha hs hs2
end
end L2

end

section
namespace L2
open PySem PySem.Spec PyProof.Rows
section
variable {X : Cx}
def rSum : List V → Hp → VK → Prop := fun xs H Q => ∃ (p : Addr) (ns : List Int), xs = [.ref p] ∧ H p = some (.lst (ns.map V.int)) ∧ Q (.int ns.sum) H
theorem intsAre_vals : ∀ {ns : List Int} {us : List Value}, Vals (ns.map V.int) us → IntsAre us ns
 | [], us, h => by cases h; exact .nil
 | n :: ns, us, h => by
  cases h with
  | cons r t => obtain ⟨k, rfl⟩ := r; exact .cons n k (intsAre_vals t)
theorem call_sum (hc : X.calm = true) : CallR X (.builtin "sum") rSum := by
 intro pins s σ H xs us Q I r h
 obtain ⟨p, ns, rfl, hp, q⟩ := h
 obtain ⟨u, rfl, ru⟩ := r.one
 cases ru
 obtain ⟨its, rv, pl, hz⟩ := I.list (SqL.of hp)
 have hi := intsAre_vals rv
 obtain ⟨xs, hx⟩ := AllInts.items hi.allInts
 have hl : s.heap.IsList p (intItems xs) := hx ▸ pl.isList
 refine sum_intListG (I.ok.hd hc) hl fun h' tk t' hk => ?_
 have e1 : ns = xs.toList.map (fun x => x.fst) := by rw [← nums_intItems, ← hx, List.toList_toArray, hi.numsOf]
 have e2 : preSum (numAt xs) xs.size = ns.sum := by
  rw [preSum_eq, List.take_of_length_le (by simp), ← e1]
 rw [e2]
 exact ⟨.int ns.sum, H, I.kept fun b o eb => hk b o eb, ⟨t', rfl⟩, q⟩
end
def Itq (lo st : Int) (n : Nat) : It := { go := fun i _ => i < n, yld := fun i H x H' => H' = H ∧ x = .int (lo + i * st), stop := fun i _ => n ≤ i }
theorem turn_rangeS {P : Program} {w : World} {K : PySem.W.Frag} {tg : Expr} (it : Addr) (lo st : Int) (n : Nat) : Turn P w K tg (Itq lo st n) [it] it (fun i h => IsRangeIter h it (lo + (i : Nat) * st) ((n : Int) - (i : Nat)) st) where
 mem := by simp
 obj := fun i h hs b hb => by
  obtain rfl : b = it := by simpa using hb
  exact ⟨_, hs, fun v z => by
   have z' : Data.fields _ = Data.cell v := z
   cases z'⟩
 keep := fun i h h' hs k => k it (by simp) _ hs
 item := by
  intro X hP hw hK hc i pins s σ H E I hf hs hg
  subst hP hw hK
  obtain ⟨f0, f1, f2, f3, f4, f5⟩ := hf it (by simp)
  have W := Walks.range (prog := X.prog) (w := X.w) (I.ok.hd hc) it lo st n
  refine W.item i s _ _ hg hs fun v h' tk hv st' kk => ?_
  obtain ⟨t, rfl⟩ := hv
  have I1 : Inv X pins σ H { s with heap := h', toks := tk } := I.turned (fun b o hb e => kk b o (by simpa using hb) e) f0 f1 f3 f4 f5
  exact ⟨_, rfl, go_of (s := { s with heap := h', toks := tk }) (n := "range_iterator") st' rfl rfl (by decide) ⟨.int (lo + i * st), H, I1, ⟨t, rfl⟩, ⟨rfl, rfl⟩, st', fun b hb => (hf b hb).1⟩⟩
 done := by
  intro X hP hw hK hc i pins s σ H E I hf hs hg
  subst hP hw hK
  obtain ⟨f0, f1, f2, f3, f4, f5⟩ := hf it (by simp)
  exact wpAny_pyNext_range_end (I.ok.hd hc) hs (by have : n ≤ i := hg; omega) fun h' eb => ⟨rfl, I.turned (t' := s.toks) (fun b o hb e => eb b o hb e) f0 f1 f3 f4 f5⟩
 self := fun _ _ _ _ _ hs h => wpAny_pyIter_rangeiter hs h
section
variable {X : Cx} {tg : Expr}
end
theorem for_rangeS {lo st : Int} {n : Nat} {g : TG} {tb : TS} {D : Ends} {σ : St} {H : Hp} (Pv : Nat → St → Hp → Prop) (h0 : Pv 0 σ H)
  (hs : ∀ i σ H, i < n → Pv i σ H → g (.int (lo + i * st)) σ H fun σ2 H2 => tb { D with nx := Pv (i + 1), ct := Pv (i + 1), bk := D.nx } σ2 H2) (hd : ∀ σ H, Pv n σ H → D.nx σ H) :
  ∃ W : Nat → Nat → St → Hp → Prop, (∃ m, W 0 m σ H) ∧ ∀ i m σ H, W i m σ H →
   ((Itq lo st n).stop i H ∧ D.nx σ H) ∨ ((Itq lo st n).go i H ∧ ∃ N : St → Hp → Prop, (∀ σ' H', N σ' H' → ∃ m', m' < m ∧ W (i + 1) m' σ' H') ∧ ∀ x H', (Itq lo st n).yld i H x H' → g x σ H' fun σ2 H2 => tb { D with nx := N, ct := N, bk := D.nx } σ2 H2) := by
 refine ⟨fun i m σ H => m = n - i ∧ i ≤ n ∧ Pv i σ H, ⟨n, by simp, Nat.zero_le _, h0⟩, ?_⟩
 rintro i m σ H ⟨rfl, hi, p⟩
 by_cases hlt : i < n
 ·refine .inr ⟨hlt, Pv (i + 1), fun σ' H' p' => ⟨n - (i + 1), by omega, rfl, hlt, p'⟩, fun x H' ⟨e, y⟩ => ?_⟩
  subst e y
  exact hs i σ _ hlt p
 ·obtain rfl : i = n := by omega
  exact .inl ⟨Nat.le_refl _, hd σ H p⟩
end L2

end

section
namespace MF
open PySem PySem.Spec PyProof.Rows L2
theorem _root_.L2.walk_enum {P : Program} {w : World} {K : PySem.W.Frag} {S : SeqK P w K} {a : Addr} {xs : List V} {cap : List (Option Nat)} {g : TG} {tt : TT} {te : TE} {σ : L2.St} {Q : List V → Hp → Prop} {H : Hp} (Pv : Nat → List V → Hp → Prop) (hn : xs.length ≤ 100000) (h0 : Pv 0 [] H) (hz : ∀ i zs H, Pv i zs H → zs.length ≤ i)
  (hl : ∀ i zs H, Pv i zs H → S.Sq H a xs)
  (hs : ∀ i x zs H T, xs[i]? = some x → Pv i zs H → H T = none → g (.ref T) (capOf cap σ) (upd H T (.tup [.int i, x])) fun σ2 H2 => Keep (capOf cap σ) σ2 ∧ tt σ2 H2 fun b H3 => br b (te σ2 H3 fun y H4 => Pv (i + 1) (zs ++ [y]) H4) (Pv (i + 1) zs H3))
  (hd : ∀ zs H, Pv xs.length zs H → Q zs H) : Walk (Ite S a) cap g tt te σ Q H :=
 walk_n xs.length Pv hn h0 hz (fun i zs H hi p => by
  have q := hl i zs H p
  refine ⟨⟨xs, xs[i], q, by simp [hi]⟩, fun v H' ⟨T, e, n, y⟩ => ?_⟩
  subst e
  rw [y xs xs[i] q (by simp [hi])]
  exact hs i xs[i] zs H T (by simp [hi]) p n)
  fun zs H p => ⟨⟨xs, hl _ zs H p, rfl⟩, hd zs H p⟩
theorem _root_.L2.for_enum {P : Program} {w : World} {K : PySem.W.Frag} {S : SeqK P w K} {a : Addr} {xs : List V} {g : TG} {tb : TS} {D : Ends} {σ : L2.St} {H : Hp} (Pv : Nat → L2.St → Hp → Prop) (h0 : Pv 0 σ H) (hl : ∀ i σ H, Pv i σ H → S.Sq H a xs)
  (hs : ∀ i x σ H T, xs[i]? = some x → Pv i σ H → H T = none → g (.ref T) σ (upd H T (.tup [.int i, x])) fun σ2 H2 => tb { D with nx := Pv (i + 1), ct := Pv (i + 1), bk := D.nx } σ2 H2) (hd : ∀ σ H, Pv xs.length σ H → D.nx σ H) :
  ∃ W : Nat → Nat → L2.St → Hp → Prop, (∃ m, W 0 m σ H) ∧ ∀ i m σ H, W i m σ H →
   ((Ite S a).stop i H ∧ D.nx σ H) ∨ ((Ite S a).go i H ∧ ∃ N : L2.St → Hp → Prop, (∀ σ' H', N σ' H' → ∃ m', m' < m ∧ W (i + 1) m' σ' H') ∧ ∀ x H', (Ite S a).yld i H x H' → g x σ H' fun σ2 H2 => tb { D with nx := N, ct := N, bk := D.nx } σ2 H2) := by
 refine ⟨fun i m σ H => m = xs.length - i ∧ i ≤ xs.length ∧ Pv i σ H, ⟨xs.length, by simp, Nat.zero_le _, h0⟩, ?_⟩
 rintro i m σ H ⟨rfl, hi, p⟩
 have q := hl i σ H p
 by_cases hlt : i < xs.length
 ·refine .inr ⟨⟨xs, xs[i], q, by simp [hlt]⟩, Pv (i + 1), fun σ' H' p' => ⟨xs.length - (i + 1), by omega, rfl, hlt, p'⟩, fun x H' ⟨T, e, n, y⟩ => ?_⟩
  subst e
  rw [y xs xs[i] q (by simp [hlt])]
  exact hs i xs[i] σ H T (by simp [hlt]) p n
 ·obtain rfl : i = xs.length := by omega
  exact .inl ⟨⟨xs, q, rfl⟩, hd σ H p⟩
structure PL where
 bs : List (Int × Int)
 es : List (Int × Int × Int)
 lo : Int
 hi : Int
 st : Int
abbrev bD (q : Int × Int) : PyData := .tuple [.int q.1, .int q.2]
abbrev eD (q : Int × Int × Int) : PyData := .tuple [.int q.1, .int q.2.1, .int q.2.2]
def PL.d (P : PL) : PyData := .tuple [.tuple (P.bs.map bD), .tuple (P.es.map eD), .tuple [.int P.lo, .int P.hi, .int P.st]]
structure PL.ok (P : PL) : Prop where
 b : ∀ q ∈ P.bs, 1 ≤ q.1 ∧ q.1 ≤ 9 ∧ 1 ≤ q.2 ∧ q.2 ≤ 9
 b1 : 1 ≤ P.bs.length
 b4 : P.bs.length ≤ 4
 e : ∀ q ∈ P.es, 1 ≤ q.1 ∧ q.1 ≤ 9 ∧ 0 ≤ q.2.1 ∧ q.2.1 ≤ 7 ∧ 1 ≤ q.2.2 ∧ q.2.2 ≤ 8
 e4 : P.es.length ≤ 4
 lo0 : 0 ≤ P.lo
 ls : P.lo ≤ P.st
 sh : P.st ≤ P.hi
 h4 : P.hi ≤ 40
structure FT where
 b : Int
 out : Bool
 f : Int
 l : Int
def wS (b : Bool) : Str := if b then "out" else "scaled"
abbrev wV (b : Bool) : V := .str (wS b)
abbrev FT.d (x : FT) : PyData := .tuple [.int x.b, .str (wS x.out), .int x.f, .int x.l]
structure SY where
 ex : List Int
 fs : List FT
def SY.d (S : SY) : PyData := .tuple [.tuple (S.ex.map .int), .tuple (S.fs.map FT.d)]
structure FT.ok (x : FT) (n h : Nat) : Prop where
 b0 : 0 ≤ x.b
 bn : x.b < n
 f0 : 0 ≤ x.f
 fl : x.f ≤ x.l
 lh : x.l < h
structure SY.ok (S : SY) (n : Nat) : Prop where
 x1 : 1 ≤ S.ex.length
 x8 : S.ex.length ≤ 8
 x : ∀ u ∈ S.ex, 0 ≤ u ∧ u ≤ 20
 f4 : S.fs.length ≤ 4
 f : ∀ x ∈ S.fs, x.ok n S.ex.length
def capU (ws : List Bool) (m : Int) : Int := if ws.any id then 0 else if ws.any (!·) then m / 2 else m
def hitF (b h : Int) (x : FT) : Bool := x.b == b && decide (x.f ≤ h) && decide (h ≤ x.l)
def wordsOf (fs : List FT) (b h : Int) : List Bool := (fs.filter (hitF b h)).map FT.out
def capsIn (bs : List (Int × Int)) (fs : List FT) (h : Int) : List Int := bs.zipIdx.map fun q => capU (wordsOf fs q.2 h) q.1.1
def caps (P : PL) (S : SY) : List (List Int) := (List.range S.ex.length).map fun (h : Nat) => capsIn P.bs S.fs (h : Int)
def drawn (q : Int × Int × Int) (h : Int) : Int := if h < q.2.1 ∨ (h - q.2.1) % q.2.2 ≠ 0 then 0 else q.1
def draws (P : PL) (S : SY) : List Int := S.ex.zipIdx.map fun q => q.1 + (P.es.map fun e => drawn e q.2).sum
abbrev rowD (r : List Int) : PyData := .tuple (r.map .int)
def capsD (P : PL) (S : SY) : PyData := .tuple ((caps P S).map rowD)
def drawsD (P : PL) (S : SY) : PyData := rowD (draws P S)
def ret (H : Hp) (Q : VK) (p : Addr) (d : PyData) : Prop := ∀ v H', Same H H' → Rep p H' d v → Q v H'
theorem take_next {α : Type} {l : List α} {i : Nat} {x : α} (h : l[i]? = some x) : l.take (i + 1) = l.take i ++ [x] := by rw [List.take_add_one, h]; rfl
theorem capsIn_get {bs : List (Int × Int)} {fs : List FT} {h : Int} {i : Nat} {q : Int × Int} (hq : bs[i]? = some q) : (capsIn bs fs h)[i]? = some (capU (wordsOf fs i h) q.1) := by
 unfold capsIn; rw [List.getElem?_map, List.getElem?_zipIdx, hq]; simp
theorem capsIn_len {bs : List (Int × Int)} {fs : List FT} {h : Int} : (capsIn bs fs h).length = bs.length := by unfold capsIn; simp
theorem caps_get {P : PL} {S : SY} {i : Nat} (h : i < S.ex.length) : (caps P S)[i]? = some (capsIn P.bs S.fs i) := by
 unfold caps; rw [List.getElem?_map, List.getElem?_range h]; rfl
theorem caps_len {P : PL} {S : SY} : (caps P S).length = S.ex.length := by unfold caps; simp
theorem draws_get {P : PL} {S : SY} {i : Nat} {u : Int} (hu : S.ex[i]? = some u) : (draws P S)[i]? = some (u + (P.es.map fun e => drawn e i).sum) := by
 unfold draws; rw [List.getElem?_map, List.getElem?_zipIdx, hu]; simp
theorem draws_len {P : PL} {S : SY} : (draws P S).length = S.ex.length := by unfold draws; simp
theorem in_out {ws : List Bool} : inV (.str "out") (ws.map wV) = ws.any id := by
 induction ws with
 | nil => rfl
 | cons b ws ih =>
  unfold inV at ih ⊢
  rw [List.map_cons, List.any_cons, ih, List.any_cons]
  cases b <;> rfl
theorem in_scaled {ws : List Bool} : inV (.str "scaled") (ws.map wV) = ws.any (!·) := by
 induction ws with
 | nil => rfl
 | cons b ws ih =>
  unfold inV at ih ⊢
  rw [List.map_cons, List.any_cons, ih, List.any_cons]
  cases b <;> rfl
theorem flat_words {ws : List Bool} : (ws.map wV).all flatV = true := by
 rw [List.all_map, List.all_eq_true]
 intro b _
 rfl
theorem word_known (b : Bool) : inV (wV b) [.str "out", .str "scaled"] = true := by cases b <;> rfl
theorem words_next {fs : List FT} {i : Nat} {x : FT} {b h : Int} (hx : fs[i]? = some x) : wordsOf (fs.take (i + 1)) b h = if hitF b h x then wordsOf (fs.take i) b h ++ [x.out] else wordsOf (fs.take i) b h := by
 unfold wordsOf
 rw [take_next hx, List.filter_append]
 by_cases c : hitF b h x = true
 ·rw [if_pos c, List.filter_cons_of_pos c, List.map_append]; rfl
 ·rw [if_neg c, List.filter_cons_of_neg c, List.filter_nil, List.append_nil]
theorem Reps.mapGot {α : Type} {p : Addr} {H : Hp} {f : α → PyData} {l : List α} {xs : List V} {i : Nat} {x : V} (r : Reps p H (l.map f) xs) (h : xs[i]? = some x) : ∃ a, l[i]? = some a ∧ Rep p H (f a) x := by
 obtain ⟨d, hd, rd⟩ := r.got h
 rw [List.getElem?_map] at hd
 cases z : l[i]? with
 | none => rw [z] at hd; cases hd
 | some a => rw [z] at hd; cases hd; exact ⟨a, rfl, rd⟩
theorem Reps.ints {p : Addr} {H : Hp} : ∀ {ns : List Int} {xs : List V}, Reps p H (ns.map .int) xs → xs = ns.map V.int
 | [], xs, r => by unfold Reps at r; exact r
 | n :: ns, xs, r => by
  rw [List.map_cons] at r
  unfold Reps at r
  obtain ⟨x, t, rfl, rx, rt⟩ := r
  unfold Rep at rx
  rw [rx, Reps.ints rt]; rfl
theorem Reps.ofInts {p : Addr} {H : Hp} : ∀ {ns : List Int}, Reps p H (ns.map .int) (ns.map V.int)
 | [] => .nil
 | n :: ns => .cons Rep.int Reps.ofInts
theorem Reps.snoc {p : Addr} {H : Hp} {ds : List PyData} {xs : List V} {d : PyData} {x : V} (r : Reps p H ds xs) (h : Rep p H d x) : Reps p H (ds ++ [d]) (xs ++ [x]) := r.append (.cons h .nil)
theorem Rep.row {p a : Addr} {H : Hp} {r : List Int} (h : H a = some (.tup (r.map V.int))) : Rep p H (rowD r) (.ref a) := Rep.tup h Reps.ofInts
theorem Same.own {H H' : Hp} {b : Addr} {o : HO} (s : Same H H') (n : H b = none) : Same H (upd H' b o) := fun x u q => by rw [upd_ne (ne_of_none q n)]; exact s x u q
theorem Reps.four {p : Addr} {H : Hp} {a b c d : PyData} {xs : List V} (r : Reps p H [a, b, c, d] xs) : ∃ x y z w, xs = [x, y, z, w] ∧ Rep p H a x ∧ Rep p H b y ∧ Rep p H c z ∧ Rep p H d w := by
 unfold Reps at r; obtain ⟨x, s, rfl, hx, r⟩ := r; unfold Reps at r; obtain ⟨y, s, rfl, hy, r⟩ := r; unfold Reps at r; obtain ⟨z, s, rfl, hz, r⟩ := r; unfold Reps at r; obtain ⟨w, s, rfl, hw, r⟩ := r; unfold Reps at r; subst r; exact ⟨x, y, z, w, rfl, hx, hy, hz, hw⟩
theorem nd_ne {a b : V} (h : (!decide (a = b)) = true) : a ≠ b := by simpa using h
structure Small (n k : Nat) (d : PyData) : Prop where
 w : wide d ≤ n
 dp : d.depth ≤ k
 nd : d.hasDict = false
theorem capU_bd {ws : List Bool} {m : Int} (h0 : 0 ≤ m) (h9 : m ≤ 9) : 0 ≤ capU ws m ∧ capU ws m ≤ m := by
 unfold capU
 split
 ·omega
 ·split
  ·omega
  ·omega
theorem caps_bd {P : PL} {S : SY} (ok : P.ok) : ∀ r ∈ caps P S, (∀ i ∈ r, 0 ≤ i ∧ i ≤ 9) ∧ r.length = P.bs.length := fun r hr => by
 unfold caps at hr
 obtain ⟨h, _, rfl⟩ := List.mem_map.mp hr
 refine ⟨fun i hi => ?_, capsIn_len⟩
 unfold capsIn at hi
 obtain ⟨q, hq, rfl⟩ := List.mem_map.mp hi
 obtain ⟨b1, b2, _⟩ := ok.b q.1 (List.fst_mem_of_mem_zipIdx hq)
 have := capU_bd (ws := wordsOf S.fs q.2 h) (m := q.1.1) (by omega) b2
 omega
theorem drawn_bd {q : Int × Int × Int} {h : Int} (h1 : 1 ≤ q.1) (h9 : q.1 ≤ 9) : 0 ≤ drawn q h ∧ drawn q h ≤ 9 := by
 unfold drawn
 split <;> omega
theorem sum_bd {l : List Int} (h : ∀ i ∈ l, 0 ≤ i ∧ i ≤ 9) : 0 ≤ l.sum ∧ l.sum ≤ 9 * l.length := by
 induction l with
 | nil => exact ⟨Int.le_refl _, Int.le_refl _⟩
 | cons a l ih =>
  have := h a List.mem_cons_self
  have := ih fun i hi => h i (List.mem_cons_of_mem _ hi)
  rw [List.sum_cons, List.length_cons]
  omega
theorem draws_bd {P : PL} {S : SY} (ok : P.ok) {n : Nat} (so : S.ok n) : ∀ i ∈ draws P S, 0 ≤ i ∧ i ≤ 56 := fun i hi => by
 unfold draws at hi
 obtain ⟨q, hq, rfl⟩ := List.mem_map.mp hi
 have a := so.x q.1 (List.fst_mem_of_mem_zipIdx hq)
 have b := sum_bd (l := P.es.map fun e => drawn e q.2) fun i hi => by
  obtain ⟨e, he, rfl⟩ := List.mem_map.mp hi
  obtain ⟨e1, e2, _⟩ := ok.e e he
  exact drawn_bd e1 e2
 rw [List.length_map] at b
 have := ok.e4
 omega
theorem getD_of {l : List Int} {i : Nat} (h : i < l.length) : l[i]? = some (l.getD i 0) := by rw [List.getD_eq_getElem?_getD, List.getElem?_eq_getElem h]; rfl
theorem capU_of {ws : List Bool} {m : Int} (c : ws.any id = false) : m / (1 + if ws.any (!·) = true then 1 else 0) = capU ws m := by
 unfold capU
 rw [c, if_neg (by decide : ¬ (false = true))]
 cases ws.any (!·) with
 | true => rfl
 | false => exact Int.ediv_one _
end MF

end

section
namespace L2
open PySem PySem.Spec PyProof.Rows
section
variable {X : Cx}
def rSumS : List V → Hp → VK → Prop := fun xs H Q => ∃ (p : Addr) (ns : List Int), xs = [.ref p] ∧ (H p = some (.lst (ns.map V.int)) ∨ H p = some (.tup (ns.map V.int))) ∧ Q (.int ns.sum) H
theorem call_sumS (hc : X.calm = true) : CallR X (.builtin "sum") rSumS := by
 intro pins s σ H xs us Q I r h
 obtain ⟨p, ns, rfl, hp, q⟩ := h
 rcases hp with hp | hp
 ·exact call_sum hc pins s σ H _ us Q I r ⟨p, ns, rfl, hp, q⟩
 obtain ⟨u, rfl, ru⟩ := r.one
 cases ru
 obtain ⟨its, rv, pl, hz⟩ := I.tuple (SqT.of hp)
 have hi := intsAre_vals rv
 obtain ⟨xs, hx⟩ := AllInts.items hi.allInts
 have e1 : ns = xs.toList.map (fun x => x.fst) := by rw [← nums_intItems, ← hx, List.toList_toArray, hi.numsOf]
 have e2 : preSum (numAt xs) xs.size = ns.sum := by
  rw [preSum_eq, List.take_of_length_le (by simp), ← e1]
 have hl : s.heap.IsTuple p (intItems xs) := hx ▸ (show s.heap.IsTuple p its.toArray from pl)
 refine call_sum_walkG (wpAny_pyIter_tuple hl ?_)
 have hlt : p < s.heap.objs.size := by
  obtain ⟨o, ho, _⟩ := id hl
  exact Heap.lt_size ho
 refine ⟨s.heap.objs.size, _, _, _, _, _, numAt xs, rfl, Walks.tuple (A := X.A.in1) (I.ok.hd hc) s.heap.objs.size p (Nat.ne_of_lt hlt) (intItems xs), ⟨⟨_, Heap.get?_push_size _ rfl, rfl, rfl⟩, ?_⟩, fun b hb => ?_, fun i v hv => intItems_at hv, fun h' tk t' hk => ?_⟩
 ·obtain ⟨o, ho, ho2⟩ := id hl
  exact ⟨o, Heap.get?_push_of_some _ ho, ho2⟩
 ·have : b = s.heap.objs.size ∨ b = p := by simpa using hb
  rw [show (s.heap.push _).objs.size = s.heap.objs.size + 1 from Array.size_push _]
  rcases this with rfl | rfl
  ·exact Nat.lt_succ_self _
  ·exact Nat.lt_succ_of_lt hlt
 ·have e3 : (intItems xs).size = xs.size := Array.size_map
  rw [e3, e2]
  refine ⟨.int ns.sum, H, I.kept fun b o eb => hk b o ?_ (Heap.get?_push_of_some _ eb), ⟨t', rfl⟩, q⟩
  intro z
  have z' : b = s.heap.objs.size := by simpa using z
  exact absurd (Heap.lt_size eb) (by rw [z']; exact Nat.lt_irrefl _)
end
end L2

end

section
namespace MF
open PySem PySem.Spec PyProof.Rows L2
theorem _root_.L2.walk_zip {P : Program} {w : World} {K : PySem.W.Frag} {S1 S2 : SeqK P w K} {a b : Addr} {xs ys : List V} {cap : List (Option Nat)} {g : TG} {tt : TT} {te : TE} {σ : L2.St} {Q : List V → Hp → Prop} {H : Hp} (Pv : Nat → List V → Hp → Prop) (hn : xs.length ≤ 100000) (he : xs.length = ys.length) (h0 : Pv 0 [] H) (hz : ∀ i zs H, Pv i zs H → zs.length ≤ i)
  (hl : ∀ i zs H, Pv i zs H → S1.Sq H a xs ∧ S2.Sq H b ys)
  (hs : ∀ i x y zs H T, xs[i]? = some x → ys[i]? = some y → Pv i zs H → H T = none → g (.ref T) (capOf cap σ) (upd H T (.tup [x, y])) fun σ2 H2 => Keep (capOf cap σ) σ2 ∧ tt σ2 H2 fun b H3 => br b (te σ2 H3 fun y H4 => Pv (i + 1) (zs ++ [y]) H4) (Pv (i + 1) zs H3))
  (hd : ∀ zs H, Pv xs.length zs H → Q zs H) : Walk (Itz S1 S2 a b) cap g tt te σ Q H :=
 walk_n xs.length Pv hn h0 hz (fun i zs H hi p => by
  obtain ⟨q1, q2⟩ := hl i zs H p
  have hy : i < ys.length := by omega
  refine ⟨⟨xs, ys, xs[i], ys[i], q1, q2, by simp [hi], by simp [hy]⟩, fun v H' ⟨T, e, n, y⟩ => ?_⟩
  subst e
  rw [y xs ys xs[i] ys[i] q1 q2 (by simp [hi]) (by simp [hy])]
  exact hs i xs[i] ys[i] zs H T (by simp [hi]) (by simp [hy]) p n)
  fun zs H p => ⟨⟨xs, ys, (hl _ zs H p).1, (hl _ zs H p).2, rfl⟩, hd zs H p⟩
theorem Same.evOwn {H H2 H' : Hp} {R : Addr} (s : Same H H2) (n : H R = none) (e : Ev R H2 H') : Same H H' := fun b o q => (e b o (s b o q)).elim (fun ⟨z, _⟩ => by rw [z, n] at q; cases q) id
def FD (F : List (List Int)) : PyData := .tuple (F.map rowD)
structure FOk (P : PL) (S : SY) (F : List (List Int)) : Prop where
 len : F.length = S.ex.length
 row : ∀ (i : Nat) (r : List Int), F[i]? = some r → r.length = P.bs.length
 bd : ∀ (i : Nat) (r : List Int) (j : Nat) (x c : Int), F[i]? = some r → r[j]? = some x → (capsIn P.bs S.fs i)[j]? = some c → 0 ≤ x ∧ x ≤ c
theorem FOk.caps {P : PL} {S : SY} (ok : P.ok) : FOk P S (caps P S) := by
 refine ⟨caps_len, fun i r hr => ?_, fun i r j x c hr hx hc => ?_⟩
 ·exact (caps_bd ok r (List.mem_of_getElem? hr)).2
 ·have hi : i < S.ex.length := by
   have := (List.getElem?_eq_some_iff.mp hr).1
   rw [caps_len] at this; exact this
  rw [caps_get hi] at hr
  cases hr
  rw [hx] at hc
  cases hc
  have := (caps_bd (S := S) ok _ (List.mem_of_getElem? (caps_get hi))).1 x (List.mem_of_getElem? hx)
  omega
structure Tri (p : Addr) (H : Hp) (P : PL) (S : SY) (F : List (List Int)) (v u w : V) : Prop where
 ok : P.ok
 so : S.ok P.bs.length
 fo : FOk P S F
 r : Rep p H P.d v
 ru : Rep p H S.d u
 rw : Rep p H (FD F) w
theorem Tri.ev {p : Addr} {H H' : Hp} {P : PL} {S : SY} {F : List (List Int)} {v u w : V} (t : Tri p H P S F v u w) (e : Ev p H H') : Tri p H' P S F v u w := ⟨t.ok, t.so, t.fo, Rep.ev e _ _ t.r, Rep.ev e _ _ t.ru, Rep.ev e _ _ t.rw⟩
theorem Tri.sm {p : Addr} {H H' : Hp} {P : PL} {S : SY} {F : List (List Int)} {v u w : V} (t : Tri p H P S F v u w) (e : Same H H') : Tri p H' P S F v u w := t.ev (Ev.same e)
def made (F : List (List Int)) (i : Nat) : Int := (F.getD i []).sum
def drawnAt (P : PL) (S : SY) (i : Nat) : Int := (draws P S).getD i 0
def blownOf (hi m : Int) : Int := if 0 > m - hi then 0 else m - hi
def mainAt (P : PL) (S : SY) (F : List (List Int)) : Nat → Int
 | 0 => P.st
 | i + 1 => mainAt P S F i + (made F i - drawnAt P S i) - blownOf P.hi (mainAt P S F i + (made F i - drawnAt P S i))
def pmAt (P : PL) (S : SY) (F : List (List Int)) (i : Nat) : Int := mainAt P S F i + (made F i - drawnAt P S i)
theorem mainAt_next {P : PL} {S : SY} {F : List (List Int)} {i : Nat} : mainAt P S F (i + 1) = pmAt P S F i - blownOf P.hi (pmAt P S F i) := rfl
def row4 (P : PL) (S : SY) (F : List (List Int)) (i : Nat) : PyData := .tuple [.int (made F i), .int (drawnAt P S i), .int (blownOf P.hi (pmAt P S F i)), .int (mainAt P S F (i + 1))]
def rowsD (P : PL) (S : SY) (F : List (List Int)) (k : Nat) : List PyData := (List.range k).map (row4 P S F)
theorem rowsD_next {P : PL} {S : SY} {F : List (List Int)} {k : Nat} : rowsD P S F (k + 1) = rowsD P S F k ++ [row4 P S F k] := by unfold rowsD; rw [List.range_succ, List.map_append]; rfl
theorem rowsD_len {P : PL} {S : SY} {F : List (List Int)} {k : Nat} : (rowsD P S F k).length = k := by unfold rowsD; simp
def shortD : Option (Int × Int) → PyData
 | none => .none
 | some q => .tuple [.int q.1, .int q.2]
structure Run (P : PL) (S : SY) (F : List (List Int)) (k : Nat) (s : Option (Int × Int)) : Prop where
 le : k ≤ S.ex.length
 up : ∀ i, i < k → P.lo ≤ pmAt P S F i
 fin : (s = none ∧ k = S.ex.length) ∨ (k < S.ex.length ∧ pmAt P S F k < P.lo ∧ s = some ((k : Int), P.lo - pmAt P S F k))
theorem Run.uniq {P : PL} {S : SY} {F : List (List Int)} {k k' : Nat} {s s' : Option (Int × Int)} (h : Run P S F k s) (h' : Run P S F k' s') : k = k' ∧ s = s' := by
 have e : k = k' := by
  rcases Nat.lt_trichotomy k k' with c | c | c
  ·have := h'.up k c
   rcases h.fin with ⟨_, z⟩ | ⟨_, z, _⟩
   ·have := h'.le; omega
   ·omega
  ·exact c
  ·have := h.up k' c
   rcases h'.fin with ⟨_, z⟩ | ⟨_, z, _⟩
   ·have := h.le; omega
   ·omega
 subst e
 refine ⟨rfl, ?_⟩
 rcases h.fin with ⟨a, b⟩ | ⟨a, b, c⟩ <;> rcases h'.fin with ⟨a', b'⟩ | ⟨a', b', c'⟩
 ·rw [a, a']
 ·omega
 ·omega
 ·rw [c, c']
theorem made_of {F : List (List Int)} {i : Nat} {r : List Int} (h : F[i]? = some r) : made F i = r.sum := by unfold made; rw [List.getD_eq_getElem?_getD, h]; rfl
theorem drawnAt_of {P : PL} {S : SY} {i : Nat} {d : Int} (h : (draws P S)[i]? = some d) : drawnAt P S i = d := by unfold drawnAt; rw [List.getD_eq_getElem?_getD, h]; rfl
end MF

end

section
namespace MF
open PySem PySem.Spec PyProof.Rows L2
theorem main_bd {P : PL} {S : SY} {F : List (List Int)} (ok : P.ok) : ∀ {k : Nat}, (∀ i, i < k → P.lo ≤ pmAt P S F i) → P.lo ≤ mainAt P S F k ∧ mainAt P S F k ≤ P.hi
 | 0, _ => ⟨ok.ls, ok.sh⟩
 | k + 1, up => by
  have h := up k (by omega)
  have h1 := ok.ls
  have h2 := ok.sh
  rw [mainAt_next]
  unfold blownOf
  split <;> omega
end MF

end

section
namespace L2
open PySem PySem.Spec PyProof.Rows
section
variable {X : Cx}
end
end L2

end

section
namespace L2
open PySem PySem.Spec PyProof.Rows
section
variable {X : Cx}
def vsB (sc : Scope) (x : Str) : Bool := match sc.names.lookup x with | some .local => true | some .cell => true | some .free => true | _ => false
def lcB (sc : Scope) (x : Str) : Bool := match sc.names.lookup x with | some .local => true | some .cell => true | _ => false
def llB (sc : Scope) (x : Str) : Bool := match sc.names.lookup x with | some .local => true | _ => false
theorem vis_of {sc : Scope} {x : Str} (h : vsB sc x = true) : Vis sc x := by
 unfold vsB at h
 split at h
 ·exact .inl (by assumption)
 ·exact .inr (.inl (by assumption))
 ·exact .inr (.inr (by assumption))
 ·cases h
theorem loc_of {sc : Scope} {x : Str} (h : lcB sc x = true) : Loc sc x := by
 unfold lcB at h
 split at h
 ·exact .inl (by assumption)
 ·exact .inr (by assumption)
 ·cases h
theorem fl_of {f : Bool} {sc : Scope} {x : Str} (h : (f || llB sc x) = true) : f = true ∨ sc.names.lookup x = some .local := by
 rcases Bool.or_eq_true_iff.mp h with h | h
 ·exact .inl h
 ·unfold llB at h
  split at h
  ·exact .inr (by assumption)
  ·cases h
theorem cw (i : Nat) {x : Str} {pos : Pos} (hN : X.N[i]? = some x) (hv : vsB X.env.scope x = true) (hd : (x == ("__debug__" : Str) || x == ("__classdict__" : Str)) = false) : PE X (.Name x pos) (cVar i) :=
 cv i hN (vis_of hv) (Bool.or_eq_false_iff.mp hd).1 (Bool.or_eq_false_iff.mp hd).2
theorem pgw {x : Str} {pos : Pos} (i : Nat) (hN : X.N.Nodup) (hi : X.N[i]? = some x) (hx : lcB X.env.scope x = true) (hf : (X.fn x || llB X.env.scope x) = true) : PG X (.Name x pos) (gName i) := pg_name hN hi (loc_of hx) (fl_of hf)
def cwB (X : Cx) (i : Nat) (x : Str) : Bool := X.N[i]? == some x && (vsB X.env.scope x && !(x == ("__debug__" : Str) || x == ("__classdict__" : Str)))
theorem cx (i : Nat) {x : Str} {pos : Pos} (h : cwB X i x = true) : PE X (.Name x pos) (cVar i) := by
 obtain ⟨h1, h2⟩ := Bool.and_eq_true_iff.mp h
 obtain ⟨h2, h3⟩ := Bool.and_eq_true_iff.mp h2
 exact cw i (eq_of_beq h1) h2 (by simpa using h3)
def pgB (X : Cx) (i : Nat) (x : Str) : Bool := X.N[i]? == some x && (lcB X.env.scope x && (X.fn x || llB X.env.scope x))
theorem pgx {x : Str} {pos : Pos} (i : Nat) (hN : X.N.Nodup) (h : pgB X i x = true) : PG X (.Name x pos) (gName i) := by
 obtain ⟨h1, h2⟩ := Bool.and_eq_true_iff.mp h
 obtain ⟨h2, h3⟩ := Bool.and_eq_true_iff.mp h2
 exact pgw i hN (eq_of_beq h1) h2 h3
theorem nd_of {l : List Str} (h : decide l.Nodup = true) : l.Nodup := of_decide_eq_true h
def nS : Expr → Bool | .Starred _ _ => false | _ => true
theorem star_of {e : Expr} {es : List Expr} {env : Env} (h : nS e = true) : starEach (e :: es) env = (false, eval e env) :: starEach es env := by
 cases e <;> first | rfl | exact absurd h Bool.false_ne_true
section
variable {e1 e2 e3 e4 : Expr} {t1 t2 t3 t4 : TE}
theorem pa1 (h1 : PE X e1 t1) (hs : nS e1 = true) : PA X [e1] (tCons t1 tNil) := pa_cons h1 pa_nil (star_of hs)
theorem pa2 (h1 : PE X e1 t1) (h2 : PE X e2 t2) (hs : (nS e1 && nS e2) = true) : PA X [e1, e2] (tCons t1 (tCons t2 tNil)) := pa_cons h1 (pa1 h2 (Bool.and_eq_true_iff.mp hs).2) (star_of (Bool.and_eq_true_iff.mp hs).1)
theorem pa3 (h1 : PE X e1 t1) (h2 : PE X e2 t2) (h3 : PE X e3 t3) (hs : (nS e1 && (nS e2 && nS e3)) = true) : PA X [e1, e2, e3] (tCons t1 (tCons t2 (tCons t3 tNil))) := pa_cons h1 (pa2 h2 h3 (Bool.and_eq_true_iff.mp hs).2) (star_of (Bool.and_eq_true_iff.mp hs).1)
theorem pa4 (h1 : PE X e1 t1) (h2 : PE X e2 t2) (h3 : PE X e3 t3) (h4 : PE X e4 t4) (hs : (nS e1 && (nS e2 && (nS e3 && nS e4))) = true) : PA X [e1, e2, e3, e4] (tCons t1 (tCons t2 (tCons t3 (tCons t4 tNil)))) := pa_cons h1 (pa3 h2 h3 h4 (Bool.and_eq_true_iff.mp hs).2) (star_of (Bool.and_eq_true_iff.mp hs).1)
end
end
end L2

end

section
namespace L2
open PySem PySem.Spec PyProof.Rows
section
variable {X : Cx}
end
end L2
namespace MF
open PySem PySem.Spec PyProof.Rows L2
theorem main_mono {P : PL} {S : SY} {F F' : List (List Int)} (h : ∀ i, made F i ≤ made F' i) : ∀ i, mainAt P S F i ≤ mainAt P S F' i
 | 0 => Int.le_refl _
 | i + 1 => by
  have ih := main_mono (P := P) (S := S) h i
  have hm := h i
  rw [mainAt_next, mainAt_next]
  have hp : pmAt P S F i ≤ pmAt P S F' i := by unfold pmAt; omega
  unfold blownOf
  split <;> split <;> omega
end MF

end

section
namespace L2
open PySem PySem.Spec PyProof.Rows
abbrev twoE (elt tg1 it1 : Expr) (ifs1 : List Expr) (tg2 it2 : Expr) (ifs2 : List Expr) (scope : Scope) (pos : Pos) : Expr := .ListComp elt [⟨tg1, it1, ifs1, 0⟩, ⟨tg2, it2, ifs2, 0⟩] scope pos
section
variable {prog : Program} {w : World} {A : Around} {R : Result → Shared → Prop} {s : Shared} {elt tg1 it1 tg2 it2 : Expr} {ifs1 ifs2 : List Expr} {scope : Scope} {pos : Pos} {it acc : Value} {env : Env}
theorem compStart1 (h0 : codeAny (model prog w) A (.compLoop (twoE elt tg1 it1 ifs1 tg2 it2 ifs2 scope pos) 1 it acc env) R s)
  (h : wpAny (model prog w) A (pyIter it) (fun it' s' => codeAny (model prog w) A (.compLoop (twoE elt tg1 it1 ifs1 tg2 it2 ifs2 scope pos) 1 it' acc env) R s') (notedBy (model prog w) A env fun x s' => R (.error x) s') s) :
  codeAny (model prog w) A (.compStart (twoE elt tg1 it1 ifs1 tg2 it2 ifs2 scope pos) 1 it acc env) R s := by
 refine codeAny_of_tree (id (wpAny_notedAt (id (id (wpAny_bind (wpAny_askSetting (wpAny_ite ?_)))))))
 split
 ·exact wpAny_bind (wpAny_pure (wpAny_pure ⟨rfl, h0⟩))
 ·exact wpAny_bind (wpAny_rule (wpAny_bind (wpAny_standAt (wpAny_bind (wpAny_mono h (fun it' s' h' => wpAny_pure ⟨rfl, h'⟩) fun _ _ z => z)))))
end
def tIn2 (wi2 : TI) (g2 : TG) (tt2 : TT) (te : TE) : St → List V → Hp → (List V → Hp → Prop) → Prop := fun σ ys H N => wi2 σ H fun J H1 =>
 ∃ W : Nat → Nat → List V → Hp → Prop, (∃ m, W 0 m ys H1) ∧ ∀ j m zs H, W j m zs H →
  (J.stop j H ∧ N zs H) ∨
  (J.go j H ∧ zs.length < sizeLine ∧ ∃ N2 : List V → Hp → Prop, (∀ zs' H', N2 zs' H' → ∃ m', m' < m ∧ W (j + 1) m' zs' H') ∧ ∀ x H', J.yld j H x H' → g2 x σ H' fun σ3 H2 => Keep σ σ3 ∧ tt2 σ3 H2 fun b H3 =>
   br b (te σ3 H3 fun y H4 => N2 (zs ++ [y]) H4) (N2 zs H3))
def tComp2 (wi : TI) (cap : List (Option Nat)) (g : TG) (tt : TT) (wi2 : TI) (g2 : TG) (tt2 : TT) (te : TE) : St → Hp → (List V → Hp → Prop) → Prop := fun σ H Q => wi σ H fun J H1 =>
 ∃ W : Nat → Nat → List V → Hp → Prop, (∃ m, W 0 m [] H1) ∧ ∀ i m ys H, W i m ys H →
  (J.stop i H ∧ Q ys H) ∨
  (J.go i H ∧ ∃ N : List V → Hp → Prop, (∀ ys' H', N ys' H' → ∃ m', m' < m ∧ W (i + 1) m' ys' H') ∧ ∀ x H', J.yld i H x H' → g x (capOf cap σ) H' fun σ2 H2 => Keep (capOf cap σ) σ2 ∧ tt σ2 H2 fun b H3 =>
   br b (tIn2 wi2 g2 tt2 te σ2 ys H3 N) (N ys H3))
theorem comp_core2 {X : Cx} {tg iter tg2 iter2 elt : Expr} {ifs ifs2 : List Expr} {scope : Scope} {pos pos' : Pos} {wi wi2 : TI} {g g2 : TG} {tt tt2 : TT} {te : TE} {N' : List Str} {cap : List (Option Nat)} {use : Option (Value → Sem Unit)} {Q' : Value → Shared → Prop}
  {pins : List (Addr × Obj)} {s : Shared} {σ : St} {H : Hp} {Q : List V → Hp → Prop}
  (hc : X.calm = true) (hi : PI X tg iter wi) (B : BlockScope X.env.scope X.N scope N' cap) (hg : ∀ s H ex C, PG (blockCx X N' scope s H ex C) tg g) (ht : ∀ s H ex C, PTs (blockCx X N' scope s H ex C) ifs tt)
  (hi2 : ∀ s H ex C, PI (blockCx X N' scope s H ex C) tg2 iter2 wi2) (hg2 : ∀ s H ex C, PG (blockCx X N' scope s H ex C) tg2 g2) (ht2 : ∀ s H ex C, PTs (blockCx X N' scope s H ex C) ifs2 tt2) (he : ∀ s H ex C, PE (blockCx X N' scope s H ex C) elt te)
  (hs : ∀ x, foldedSetIterable iter X.env x = pure x) (hs2 : ∀ env x, foldedSetIterable iter2 env x = pure x) (I : Inv X pins σ H s) (h : tComp2 wi cap g tt wi2 g2 tt2 te σ H Q)
  (fin : ∀ (acc C : Addr) (H : Hp) (ys : List V) (s' : Shared), H acc = none → Inv X pins σ (upd H acc (.lst ys)) s' → Left X pins C (upd H acc (.lst ys)) s' → Q ys H → compPost (model X.prog X.w) X.A X.xe use Q' (.ref acc) C (.ok .next) s') :
  wpAny (model X.prog X.w) X.A (comprehension (twoE elt tg iter ifs tg2 iter2 ifs2 scope pos) scope X.env pos' (newList []) false (eval iter X.env) use) Q' X.xe s :=
 comp_gen zId (body := fun itv acc env => bodyU (twoE elt tg iter ifs tg2 iter2 ifs2 scope pos) 0 iter2 itv acc env) (Bt := bUp zLt wi2 g2 tt2 (bLast te)) (Cd := fun _ => True) hc hi B hg ht (fun _ _ _ => rfl)
  (fun s H ex C a A => body_up (body := fun itv => bodyL (twoE elt tg iter ifs tg2 iter2 ifs2 scope pos) 1 elt itv (.ref a) _) A rfl (hs2 _) (fun _ => rfl) compStart1 (hi2 s H ex C) (hg2 s H ex C) (ht2 s H ex C) (body_last A rfl (he s H ex C)) fun _ _ z => z) (fun _ _ z => ⟨trivial, z⟩) hs I h fin
end L2

end

section
namespace L2
open PySem PySem.Spec PyProof.Rows
section
variable {X : Cx}
end
def Walk2 (J : It) (g2 : TG) (tt2 : TT) (te : TE) (σ : St) (ys : List V) (N : List V → Hp → Prop) (H1 : Hp) : Prop :=
 ∃ W : Nat → Nat → List V → Hp → Prop, (∃ m, W 0 m ys H1) ∧ ∀ j m zs H, W j m zs H →
  (J.stop j H ∧ N zs H) ∨
  (J.go j H ∧ zs.length < sizeLine ∧ ∃ N2 : List V → Hp → Prop, (∀ zs' H', N2 zs' H' → ∃ m', m' < m ∧ W (j + 1) m' zs' H') ∧ ∀ x H', J.yld j H x H' → g2 x σ H' fun σ3 H2 => Keep σ σ3 ∧ tt2 σ3 H2 fun b H3 =>
   br b (te σ3 H3 fun y H4 => N2 (zs ++ [y]) H4) (N2 zs H3))
def Walk1 (J : It) (cap : List (Option Nat)) (g : TG) (tt : TT) (wi2 : TI) (g2 : TG) (tt2 : TT) (te : TE) (σ : St) (Q : List V → Hp → Prop) (H1 : Hp) : Prop :=
 ∃ W : Nat → Nat → List V → Hp → Prop, (∃ m, W 0 m [] H1) ∧ ∀ i m ys H, W i m ys H →
  (J.stop i H ∧ Q ys H) ∨
  (J.go i H ∧ ∃ N : List V → Hp → Prop, (∀ ys' H', N ys' H' → ∃ m', m' < m ∧ W (i + 1) m' ys' H') ∧ ∀ x H', J.yld i H x H' → g x (capOf cap σ) H' fun σ2 H2 => Keep (capOf cap σ) σ2 ∧ tt σ2 H2 fun b H3 =>
   br b (tIn2 wi2 g2 tt2 te σ2 ys H3 N) (N ys H3))
end L2
namespace MF
open PySem PySem.Spec PyProof.Rows L2
def steamBy (P : PL) (F : List (List Int)) : List Int := (List.range P.bs.length).map fun b => (F.map fun r => r.getD b 0).sum
def coal (P : PL) (F : List (List Int)) : Int := (((steamBy P F).zip P.bs).map fun q => q.1 * q.2.2).sum
end MF

end

section
namespace MF
open PySem PySem.Spec PyProof.Rows L2
abbrev Lt (d : PyData) : List Nat := d.shown.cps.toList
end MF

end

section
namespace L2
open PySem PySem.Spec PyProof.Rows
section
variable {X : Cx}
theorem o_neL0 (hu : X.A.units < cLine) : OpR X (compareOp .NotEq) (fun x y H Q => ∃ (a b : Addr) (xs : List V), x = .ref a ∧ y = .ref b ∧ H a = some (.lst xs) ∧ H b = some (.lst []) ∧ Q (.bl (!xs.isEmpty)) H) := by
 intro pins s σ H x y v u Q I rx ry h
 obtain ⟨a, b, xs, rfl, rfl, ha, hb, q⟩ := h
 cases rx; cases ry
 obtain ⟨its, r1, p1, _⟩ := I.list (SqL.of ha)
 obtain ⟨its2, r2, p2, _⟩ := I.list (SqL.of hb)
 cases r2
 cases r1 with
 | nil => exact SeqAt.RcNeAt.lists (e := fun _ => true) p1.isList p2.isList (by simp) hu (fun j h1 h2 => absurd h1 (by simp)) _ _ _ _ (fin_bl I q (by rfl))
 | cons r t => exact SeqAt.RcNeAt.lists_lengths p1.isList p2.isList (by simp) hu _ _ _ _ (fin_bl I q (by rfl))
end
end L2
namespace MF
open PySem PySem.Spec PyProof.Rows L2
end MF
namespace L2
open PySem PySem.Spec PyProof.Rows
section
variable {X : Cx}
theorem pick_rev (xs : List Value) : slicePick xs.toArray none none (some (-1)) = xs.reverse.toArray := by
 rw [← rev_pick]
 unfold slicePick
 have e : sliceRange (sliceBounds none none (some (-1)) xs.toArray.size).fst (sliceBounds none none (some (-1)) xs.toArray.size).snd.fst (sliceBounds none none (some (-1)) xs.toArray.size).snd.snd = (List.range xs.length).map fun (k : Nat) => (((xs.length : Int) - 1) + (k : Int) * (-1)).toNat := by
  have b : sliceBounds none none (some (-1)) xs.toArray.size = ((xs.length : Int) - 1, -1, -1) := by
   rw [List.size_toArray]
   rfl
  rw [b]
  unfold sliceRange
  dsimp only
  rw [if_neg (by decide)]
  have c : (if (xs.length : Int) - 1 > -1 then ((xs.length : Int) - 1 - -1 - -1 - 1) / - -1 else 0) = (xs.length : Int) := by
   split
   ·rw [show (- -1 : Int) = 1 from rfl, Int.ediv_one]; omega
   ·omega
  rw [c]
  apply List.map_congr_left
  intro k _
  congr 1
  omega
 rw [e, List.filterMap_map]
 rfl
def cRevL (te : TE) : TE := fun σ H Q => te σ H fun x H1 => ∃ a xs, x = .ref a ∧ H1 a = some (.lst xs) ∧ ∀ l, H1 l = none → Q (.ref l) (upd H1 l (.lst xs.reverse))
theorem c_revL {e st : Expr} {te : TE} {p2 pos : Pos} (he : PE X e te) (hst : PE X st (tC (.int (-1)))) : PE X (.Subscript e (.Slice none none (some st) p2) pos) (cRevL te) := by
 intro pins s σ H Q I h
 refine Subscript_ (thn (he pins s σ H _ I h) fun v s1 ⟨x, H1, I1, r1, a, xs, ex, ha, q⟩ => ?_)
 subst ex
 cases r1
 refine wpAny_Slice ?_
 rw [evalPart_none]
 refine wpAny_pure (wpAny_pure ?_)
 rw [evalPart_some]
 refine thn (hst pins s1 σ H1 (fun v H' => v = .int (-1) ∧ H' = H1) I1 ⟨rfl, rfl⟩) fun u s3 ⟨y, H3, I3, r3, ey, eH⟩ => ?_
 subst ey eH
 obtain ⟨t, rfl⟩ := r3
 have I4 : Inv X pins σ H3 { s3 with heap := s3.heap.push { cls := .type "slice", data := .fields #[.none, .none, .int (-1) t] } } := I3.kept (t' := s3.toks) fun b ob q => Heap.get?_push_of_some _ q
 generalize hs4 : ({ s3 with heap := s3.heap.push { cls := .type "slice", data := .fields #[.none, .none, .int (-1) t] } } : Shared) = s4 at I4
 have hsl : s4.heap.IsSliceOf s3.heap.objs.size .none .none (.int (-1) t) := by rw [← hs4]; exact Heap.IsSliceOf.new ..
 obtain ⟨its, r, ht, hz⟩ := I4.list (SqL.of ha)
 have hlen := r.length
 show wpAny (model X.prog X.w) X.A (subscriptTail e (.Slice none none (some st) p2) (.ref a) (.ref s3.heap.objs.size)) (EP X pins σ Q) X.xe s4
 refine tail_any (ops := [.ref a, .ref s3.heap.objs.size]) ht.isList.typeIs slot_list_getitem.lookup ?_ (by with_unfolding_all rfl)
 refine wpAny_getItem_list_slice ht.isList hsl .none .none (.int _ _) (by simp) ?_ (by rw [List.size_toArray] <;> omega)
 rw [pick_rev]
 refine ⟨.ref s4.heap.objs.size, _, I4.laid (t' := s4.toks) (o := .lst xs.reverse) (fun b ob q => Heap.get?_push_of_some _ q) (Nat.le_refl _) ?_, rfl, q _ (I4.hok.fresh (Nat.le_refl _))⟩
 exact ⟨by rw [List.length_reverse]; exact hz, _, 0, r.reverse, Heap.get?_push_size _ rfl⟩
end
end L2

end

section
namespace L2
open PySem PySem.Spec PyProof.Rows
theorem walk2_range {lo : Int} {n : Nat} {g : TG} {tt : TT} {te : TE} {σ : St} {ys : List V} {Q : List V → Hp → Prop} {H : Hp} (Pv : Nat → List V → Hp → Prop) (h0 : Pv 0 ys H) (hz : ∀ i zs H, Pv i zs H → zs.length < 100000)
  (hs : ∀ i zs H, i < n → Pv i zs H → g (.int (lo + i)) σ H fun σ2 H2 => Keep σ σ2 ∧ tt σ2 H2 fun b H3 => br b (te σ2 H3 fun y H4 => Pv (i + 1) (zs ++ [y]) H4) (Pv (i + 1) zs H3))
  (hd : ∀ zs H, Pv n zs H → Q zs H) : Walk2 (Itr lo n) g tt te σ ys Q H := by
 refine ⟨fun i m zs H => m = n - i ∧ i ≤ n ∧ Pv i zs H, ⟨n, by simp, Nat.zero_le _, h0⟩, ?_⟩
 rintro i m zs H ⟨rfl, hi, p⟩
 by_cases hlt : i < n
 ·refine .inr ⟨hlt, Nat.lt_trans (hz i zs H p) (by decide), Pv (i + 1), fun zs' H' p' => ⟨n - (i + 1), by omega, rfl, hlt, p'⟩, fun v H' ⟨e, y⟩ => ?_⟩
  subst e y
  exact hs i zs _ hlt p
 ·obtain rfl : i = n := by omega
  exact .inl ⟨Nat.le_refl _, hd zs H p⟩
theorem walk1_range {lo : Int} {n : Nat} {cap : List (Option Nat)} {g : TG} {tt : TT} {wi2 : TI} {g2 : TG} {tt2 : TT} {te : TE} {σ : St} {Q : List V → Hp → Prop} {H : Hp} (Pv : Nat → List V → Hp → Prop) (h0 : Pv 0 [] H)
  (hs : ∀ i zs H, i < n → Pv i zs H → g (.int (lo + i)) (capOf cap σ) H fun σ2 H2 => Keep (capOf cap σ) σ2 ∧ tt σ2 H2 fun b H3 => br b (tIn2 wi2 g2 tt2 te σ2 zs H3 (Pv (i + 1))) (Pv (i + 1) zs H3))
  (hd : ∀ zs H, Pv n zs H → Q zs H) : Walk1 (Itr lo n) cap g tt wi2 g2 tt2 te σ Q H := by
 refine ⟨fun i m zs H => m = n - i ∧ i ≤ n ∧ Pv i zs H, ⟨n, by simp, Nat.zero_le _, h0⟩, ?_⟩
 rintro i m zs H ⟨rfl, hi, p⟩
 by_cases hlt : i < n
 ·refine .inr ⟨hlt, Pv (i + 1), fun zs' H' p' => ⟨n - (i + 1), by omega, rfl, hlt, p'⟩, fun v H' ⟨e, y⟩ => ?_⟩
  subst e y
  exact hs i zs _ hlt p
 ·obtain rfl : i = n := by omega
  exact .inl ⟨Nat.le_refl _, hd zs H p⟩
def tComp2S (i : Nat) (wi : TI) (cap : List (Option Nat)) (g : TG) (tt : TT) (wi2 : TI) (g2 : TG) (tt2 : TT) (te : TE) : TS := fun D σ H => tComp2 wi cap g tt wi2 g2 tt2 te σ H fun ys H' => ∀ p, H' p = none → D.nx (σ.set i (some (.ref p))) (upd H' p (.lst ys))
theorem ps_setComp2 {X : Cx} {i : Nat} {y : Str} {tg iter tg2 iter2 elt : Expr} {ifs ifs2 : List Expr} {scope : Scope} {pos pos' pos'' : Pos} {wi wi2 : TI} {g g2 : TG} {tt tt2 : TT} {te : TE} (N' : List Str) (cap : List (Option Nat)) (hN : X.N.Nodup) (hin : X.N[i]? = some y) (hy : Loc X.env.scope y)
  (hc : X.calm = true) (hi : PI X tg iter wi) (B : BlockScope X.env.scope X.N scope N' cap) (hg : ∀ s H ex C, PG (blockCx X N' scope s H ex C) tg g) (ht : ∀ s H ex C, PTs (blockCx X N' scope s H ex C) ifs tt)
  (hi2 : ∀ s H ex C, PI (blockCx X N' scope s H ex C) tg2 iter2 wi2) (hg2 : ∀ s H ex C, PG (blockCx X N' scope s H ex C) tg2 g2) (ht2 : ∀ s H ex C, PTs (blockCx X N' scope s H ex C) ifs2 tt2) (he : ∀ s H ex C, PE (blockCx X N' scope s H ex C) elt te)
  (hsw : swapsWith (twoE elt tg iter ifs tg2 iter2 ifs2 scope pos) (some (.Name y pos')) pos''.line X.env = pure true := by rfl)
  (hf : X.fn y = true ∨ X.env.scope.names.lookup y = some .local := by first | exact .inl rfl | exact .inr rfl | assumption)
  (hs : ∀ x, foldedSetIterable iter X.env x = pure x := by intro _; rfl) (hs2 : ∀ env x, foldedSetIterable iter2 env x = pure x := by intro _ _; rfl) : PS X (.Assign [.Name y pos'] (.ListComp elt [⟨tg, iter, ifs, 0⟩, ⟨tg2, iter2, ifs2, 0⟩] scope pos) pos'') (tComp2S i wi cap g tt wi2 g2 tt2 te) := by
 intro pins s σ H D I h
 rw [exec_Assign_Name_used _ _ _ _ hsw]
 refine wpAny_bind (wpAny_standAt (wpAny_bind ?_))
 show wpAny _ X.A (do let _ ← comprehension (twoE elt tg iter ifs tg2 iter2 ifs2 scope pos) scope X.env _ (newList []) false (eval iter X.env) (some (assign (.Name y pos') X.env))) _ _ s
 refine wpAny_bind (wpAny_mono (comp_core2 (use := some (assign (.Name y pos') X.env)) (Q' := fun _ s' => SP X pins D .next s') hc hi B hg ht hi2 hg2 ht2 he hs hs2 I h fun acc C H ys s' hn I' L q => ?_) (fun _ s' hq => wpAny_pure (wpAny_pure hq)) fun _ _ e => e)
 obtain ⟨m, hm⟩ := L.ns
 refine wpAny_assign_Name (store_ok2 I' hN hin hy (show RelV (.ref acc) (.ref acc) from rfl) (fun s'' I'' ⟨a, sb, ha⟩ => ?_) hf)
 have hCa : C ≠ a := by
  rcases ha with e | e
  ·rw [e]; exact L.loc
  ·exact fun z => L.cell _ _ e z.symm
 refine ⟨m, hm.sameBut sb hCa, fun h' hsb => ?_⟩
 exact ⟨_, _, I''.turned (t' := s''.toks) (it := C) (fun b o hb e => hsb.extBut b o hb e) L.free L.loc (.inr L.sz) L.cell L.pin, q acc hn⟩
def tTruL (te : TE) : TT := fun σ H Q => te σ H fun x H' => ∃ a xs, x = .ref a ∧ H' a = some (.lst xs) ∧ Q (!xs.isEmpty) H'
theorem pt_truL {X : Cx} {a : Expr} {ta : TE} (ha : PE X a ta) (he : ∀ whole, isTrue a X.env whole = (do let v ← whole; standAt a.pos; holding [v] (truthy v)) := by intro _; rfl) : PT X a (tTruL ta) := by
 intro pins s σ H Q I h
 refine isTrue_plain (thn (ha pins s σ H _ I h) fun v s1 ⟨x, H1, I1, r1, q1⟩ => ?_) (he _)
 obtain ⟨b, xs, rfl, hb, q⟩ := q1
 cases r1
 obtain ⟨its, r, pl, hz⟩ := I1.list (SqL.of hb)
 have hlen := r.length
 have big : sizeLine < 2 ^ 63 := by decide
 exact wpAny_truthy_list pl.isList (by simp only [List.size_toArray]; omega) ⟨H1, I1.tok _, by rw [isEmpty_of r]; exact q⟩
section
variable {X : Cx}
end
end L2
namespace MF
open PySem PySem.Spec PyProof.Rows L2
structure TM where
 cs : List (List Int)
 co : List Int
 ds : List Int
 lo : Int
 hi : Int
 st : Int
def TM.d (T : TM) : PyData := .tuple [FD T.cs, rowD T.co, rowD T.ds, .tuple [.int T.lo, .int T.hi, .int T.st]]
def terms (P : PL) (S : SY) : TM := ⟨caps P S, P.bs.map (·.2), draws P S, P.lo, P.hi, P.st⟩
structure TM.ok (T : TM) : Prop where
 l8 : T.ds.length ≤ 8
 lc : T.cs.length = T.ds.length
theorem terms_ok {P : PL} {S : SY} {n : Nat} (so : S.ok n) : (terms P S).ok := ⟨by show (draws P S).length ≤ 8; rw [draws_len]; exact so.x8, by show (caps P S).length = (draws P S).length; rw [caps_len, draws_len]⟩
def part {α : Type} (xs : List α) (f l : Nat) : List α := (xs.drop f).take (l + 1 - f)
theorem part_len {α : Type} {xs : List α} {f l : Nat} (h : f ≤ l) (hl : l < xs.length) : (part xs f l).length = l + 1 - f := by
 unfold part; rw [List.length_take, List.length_drop]; omega
theorem cut_part {xs : List V} {f l : Nat} (h : f ≤ l) (hl : l < xs.length) : cutV xs (some (f : Int)) (some ((l : Int) + 1)) = part xs f l := by
 have e : ((l : Int) + 1) = ((l + 1 : Nat) : Int) := by omega
 unfold cutV part
 rw [e, HT.sIx_nat, HT.sIx_nat, Nat.min_eq_left (by omega), Nat.min_eq_left (by omega)]
theorem part_map {α β : Type} {g : α → β} {xs : List α} {f l : Nat} : part (xs.map g) f l = (part xs f l).map g := by
 unfold part; rw [← List.map_drop, ← List.map_take]
theorem Reps.part {p : Addr} {H : Hp} : ∀ {ds : List PyData} {xs : List V}, Reps p H ds xs → ∀ f l, Reps p H (MF.part ds f l) (MF.part xs f l) := by
 have dr : ∀ {ds : List PyData} {xs : List V}, Reps p H ds xs → ∀ f, Reps p H (ds.drop f) (xs.drop f) := by
  intro ds
  induction ds with
  | nil => intro xs r f; unfold Reps at r; subst r; rw [List.drop_nil, List.drop_nil]; exact .nil
  | cons d ds ih =>
   intro xs r f
   have r' := r
   unfold Reps at r
   obtain ⟨x, t, rfl, rx, rt⟩ := r
   cases f with
   | zero => exact r'
   | succ f => exact ih rt f
 have tk : ∀ {ds : List PyData} {xs : List V}, Reps p H ds xs → ∀ f, Reps p H (ds.take f) (xs.take f) := by
  intro ds
  induction ds with
  | nil => intro xs r f; unfold Reps at r; subst r; rw [List.take_nil, List.take_nil]; exact .nil
  | cons d ds ih =>
   intro xs r f
   unfold Reps at r
   obtain ⟨x, t, rfl, rx, rt⟩ := r
   cases f with
   | zero => exact .nil
   | succ f => exact .cons rx (ih rt f)
 intro ds xs r f l
 exact tk (dr r f) _
def most (T : TM) (f l : Nat) : Int := ((part T.cs f l).map List.sum).sum
def drawnIn (T : TM) (f l : Nat) : Int := (part T.ds f l).sum
def tooMuch (T : TM) (f l : Nat) : Bool := decide ((if f = 0 then T.st else T.hi) + most T f l < drawnIn T f l + T.lo)
def strRow (f k : Nat) : List (Nat × Nat) := (List.range k).map fun i => (f, f + i)
def strAll (n k : Nat) : List (Nat × Nat) := ((List.range k).map fun f => strRow f (n - f)).flatten
abbrev pD (q : Nat × Nat) : PyData := .tuple [.int q.1, .int q.2]
theorem strRow_next {f k : Nat} : strRow f (k + 1) = strRow f k ++ [(f, f + k)] := by unfold strRow; rw [List.range_succ, List.map_append]; rfl
theorem strRow_len {f k : Nat} : (strRow f k).length = k := by unfold strRow; simp
theorem strAll_next {n k : Nat} : strAll n (k + 1) = strAll n k ++ strRow k (n - k) := by unfold strAll; rw [List.range_succ, List.map_append, List.flatten_append]; simp
theorem strAll_len {n k : Nat} : (strAll n k).length ≤ n * k := by
 induction k with
 | zero => exact Nat.le_refl _
 | succ k ih => rw [strAll_next, List.length_append, strRow_len, Nat.mul_succ]; omega
theorem strAll_in {n k : Nat} (h : k ≤ n) : ∀ q ∈ strAll n k, q.1 ≤ q.2 ∧ q.2 < n := by
 intro q hq
 unfold strAll at hq
 obtain ⟨l, hl, hq⟩ := List.mem_flatten.mp hq
 obtain ⟨f, hf, rfl⟩ := List.mem_map.mp hl
 obtain ⟨i, hi, rfl⟩ := List.mem_map.mp hq
 have := List.mem_range.mp hf
 have := List.mem_range.mp hi
 exact ⟨by show f ≤ f + i; omega, by show f + i < n; omega⟩
def shownBy (T : TM) : List (Nat × Nat) := (strAll T.ds.length T.ds.length).filter fun q => tooMuch T q.1 q.2
def leastStr (T : TM) : Option (Nat × Nat) := (shownBy T).head?
def strD : Option (Nat × Nat) → PyData
 | none => .none
 | some q => pD q
def thereAt (T : TM) (f : Nat) : Nat → Int
 | 0 => if f = 0 then T.st else T.hi
 | k + 1 => thereAt T f k + (T.cs.getD (f + k) []).sum - T.ds.getD (f + k) 0
theorem part_next {α : Type} {xs : List α} {f k : Nat} {x : α} (h : xs[f + k]? = some x) : (xs.drop f).take (k + 1) = (xs.drop f).take k ++ [x] := take_next (by rw [List.getElem?_drop]; exact h)
theorem there_eq {T : TM} (ok : T.ok) {f : Nat} : ∀ k, f + k ≤ T.ds.length → thereAt T f k = (if f = 0 then T.st else T.hi) + (((T.cs.drop f).take k).map List.sum).sum - ((T.ds.drop f).take k).sum
 | 0, _ => by rw [List.take_zero, List.take_zero, List.map_nil, List.sum_nil]; show (if f = 0 then T.st else T.hi) = _; omega
 | k + 1, h => by
  have ih := there_eq ok (f := f) k (by omega)
  have lc := ok.lc
  have h1 : T.cs[f + k]? = some (T.cs.getD (f + k) []) := by rw [List.getD_eq_getElem?_getD, List.getElem?_eq_getElem (by omega)]; rfl
  have h2 : T.ds[f + k]? = some (T.ds.getD (f + k) 0) := getD_of (by omega)
  rw [part_next h1, part_next h2, List.map_append, List.sum_append, List.sum_append, List.map_cons, List.map_nil, List.sum_cons, List.sum_nil, List.sum_cons, List.sum_nil]
  show thereAt T f k + _ - _ = _
  omega
def shortAt (T : TM) (f l : Nat) : Bool := decide (thereAt T f (l + 1 - f) < T.lo)
theorem short_eq {T : TM} (ok : T.ok) {f l : Nat} (h : f ≤ l) (hl : l < T.ds.length) : shortAt T f l = tooMuch T f l := by
 unfold shortAt tooMuch most drawnIn part
 rw [there_eq ok _ (by omega), Bool.eq_iff_iff, decide_eq_true_eq, decide_eq_true_eq]
 omega
end MF

end

section
namespace L2
open PySem PySem.Spec PyProof.Rows
section
variable {X : Cx} {pos : Pos}
def tPar3 (i j k : Nat) (ta : TA) : TS := fun D σ H => ta σ H fun vs H1 => ∃ v w z, vs = [v, w, z] ∧ D.nx (((σ.set i (some v)).set j (some w)).set k (some z)) H1
theorem ps_par3 {i j k : Nat} {x y z : Str} {a b c : Expr} {ta : TA} {px py pz pt : Pos} {kt k2 pt2} (hc : X.calm = true) (hN : X.N.Nodup) (hi : X.N[i]? = some x) (hj : X.N[j]? = some y) (hk : X.N[k]? = some z) (hij : i ≠ j) (hik : i ≠ k) (hjk : j ≠ k)
  (hx : X.env.scope.names.lookup x = some .local) (hy : X.env.scope.names.lookup y = some .local) (hz : X.env.scope.names.lookup z = some .local) (ha : PA X [a, b, c] ta)
  (hw : swappedStores [.Tuple [.Name x px, .Name y py, .Name z pz] kt pt] (.Tuple [a, b, c] k2 pt2) X.env = pure (some [x, y, z]))
  (hs : swapsWithSole [.Tuple [.Name x px, .Name y py, .Name z pz] kt pt] (.Tuple [a, b, c] k2 pt2) pos.line X.env = pure false := by rfl) :
  PS X (.Assign [.Tuple [.Name x px, .Name y py, .Name z pz] kt pt] (.Tuple [a, b, c] k2 pt2) pos) (tPar3 i j k ta) := by
 intro pins s σ H D I h
 rw [exec_Assign_arm]
 refine wpAny_bind (wpAny_standAt ?_)
 rw [hs]
 refine wpAny_bind (wpAny_pure ?_)
 rw [if_neg (by decide)]
 refine wpAny_bind (Tuple_ (thn (ha _ pins s σ H _ I h) fun us s1 ⟨vs, H1, I1, r1, q1⟩ => ?_))
 obtain ⟨v, w, t, e1, q1⟩ := q1
 subst e1
 obtain ⟨u1, u2, u3, rfl, rv, rw', rt⟩ : ∃ u1 u2 u3, us = [u1, u2, u3] ∧ RelV v u1 ∧ RelV w u2 ∧ RelV t u3 := by
  cases r1 with
  | cons p q =>
   cases q with
   | cons p' q' =>
    cases q' with
    | cons p'' q'' =>
     cases q''
     exact ⟨_, _, _, rfl, p, p', p''⟩
 refine wpAny_newObj_type ?_ (by show 3 ≤ sizeLine; decide)
 have I2 : Inv X pins σ H1 { s1 with heap := s1.heap.push { cls := .type "tuple", data := .seq [u1, u2, u3].toArray } } := I1.kept (t' := s1.toks) fun b o e => Heap.get?_push_of_some _ e
 rw [hw]
 refine wpAny_bind (wpAny_pure ?_)
 show wpAny (model X.prog X.w) X.A (do rule "assign.swapped-stores"; let items ← unpackItems (.ref s1.heap.objs.size) 3 none; assignInOrder [fun v => bindName X.env z v, fun v => bindName X.env y v, fun v => bindName X.env x v] items.reverse; pure Flow.next) _ _ _
 refine wpAny_bind (wpAny_rule (wpAny_bind (unpackItems_tuple (items := #[u1, u2, u3]) (I.ok.hd hc) (IsTup.new s1.heap _) fun h' hx' => ?_)))
 have I3 := I2.kept (h' := h') (t' := s1.toks) fun b o e => hx' b o (Nat.ne_of_lt (Heap.lt_size e)) e
 show wpAny _ _ (assignInOrder [fun v => bindName X.env z v, fun v => bindName X.env y v, fun v => bindName X.env x v] [u3, u2, u1] >>= fun _ => pure Flow.next) _ _ _
 refine wpAny_bind (assignInOrder_cons (wpAny_bindName (store_ok I3 hN hk (.inl hz) rt (fun s2 I4 => ?_) (.inr hz))))
 refine assignInOrder_cons (wpAny_bindName (store_ok I4 hN hj (.inl hy) rw' (fun s3 I5 => ?_) (.inr hy)))
 refine assignInOrder_cons (wpAny_bindName (store_ok I5 hN hi (.inl hx) rv (fun s4 I6 => assignInOrder_nil (wpAny_pure ?_)) (.inr hx)))
 have e : ((σ.set k (some t)).set j (some w)).set i (some v) = ((σ.set i (some v)).set j (some w)).set k (some t) := by
  rw [List.set_comm _ _ (Ne.symm hij), List.set_comm _ _ (Ne.symm hik), List.set_comm _ _ (Ne.symm hjk)]
 rw [e] at I6
 exact ⟨_, H1, I6, q1⟩
end
end L2

end

section
namespace L2
open PySem PySem.Spec PyProof.Rows
theorem items_of {its : List Value} {ns : List Int} (rv : Vals (ns.map V.int) its) : ∃ ys : Array (Int × Tok), its.toArray = intItems ys ∧ ∀ a, a ∈ ns ↔ ∃ j, j < ys.size ∧ numAt ys j = a := by
 have hi : IntsAre its ns := intsAre_of rv
 obtain ⟨ys, e⟩ := hi.allInts.items
 refine ⟨ys, e, fun a => ?_⟩
 have en : ys.toList.map (·.1) = ns := by rw [← nums_intItems, ← e]; exact hi.numsOf
 rw [← en, List.mem_map]
 constructor
 ·rintro ⟨y, hy, z⟩
  obtain ⟨j, hj, z2⟩ := List.mem_iff_getElem.mp hy
  have hj' : j < ys.size := by simpa using hj
  refine ⟨j, hj', ?_⟩
  have z3 : ys[j] = y := by simpa using z2
  unfold numAt
  simp [hj', z3, z]
 ·rintro ⟨j, hj, z⟩
  refine ⟨ys[j], by simp, ?_⟩
  rw [← z]
  unfold numAt
  simp [hj]
theorem items_pos {ys : Array (Int × Tok)} {ns : List Int} (pl : ∀ a, a ∈ ns ↔ ∃ j, j < ys.size ∧ numAt ys j = a) (ne : ns ≠ []) : 0 < ys.size := by
 obtain ⟨a, ha⟩ := List.exists_mem_of_ne_nil ns ne
 obtain ⟨j, hj, _⟩ := (pl a).mp ha
 exact Nat.lt_of_le_of_lt (Nat.zero_le j) hj
section
variable {X : Cx}
end
end L2

end

section
namespace L2
open PySem PySem.Spec PyProof.Rows
section
variable {X : Cx}
theorem op_isT : OpR X (compareOp .Is) (fun x y H Q => ∃ b, x = .bl b ∧ y = .bl true ∧ Q (.bl b) H) := by
 intro pins s σ H x y v u Q I rx ry h
 obtain ⟨b, rfl, rfl, q⟩ := h
 cases rx
 cases ry
 have e : compareOp .Is (.bool b) (.bool true) = (pure (Value.bool b) : Sem Value) := by cases b <;> rfl
 rw [e]
 exact wpAny_pure (fin_bl I q rfl)
end
end L2

end

section
namespace L2
open PySem PySem.Spec PyProof.Rows
section
variable {X : Cx}
end
end L2

end

section
namespace L2
open PySem PySem.Spec PyProof.Rows
open AutoSeq1 (wpAny_loadPart')
structure ZA3 (z TI TO i1 i2 i3 l1 l2 l3 : Addr) : Prop where
 TI_z : TI ≠ z
 TO_z : TO ≠ z
 TO_TI : TO ≠ TI
 i1_z : i1 ≠ z
 i1_TI : i1 ≠ TI
 i1_TO : i1 ≠ TO
 i2_z : i2 ≠ z
 i2_TI : i2 ≠ TI
 i2_TO : i2 ≠ TO
 i2_i1 : i2 ≠ i1
 i3_z : i3 ≠ z
 i3_TI : i3 ≠ TI
 i3_TO : i3 ≠ TO
 i3_i1 : i3 ≠ i1
 i3_i2 : i3 ≠ i2
 l1_z : l1 ≠ z
 l1_TO : l1 ≠ TO
 l1_i1 : l1 ≠ i1
 l1_i2 : l1 ≠ i2
 l1_i3 : l1 ≠ i3
 l2_z : l2 ≠ z
 l2_TO : l2 ≠ TO
 l2_i1 : l2 ≠ i1
 l2_i2 : l2 ≠ i2
 l2_i3 : l2 ≠ i3
 l3_z : l3 ≠ z
 l3_TO : l3 ≠ TO
 l3_i1 : l3 ≠ i1
 l3_i2 : l3 ≠ i2
 l3_i3 : l3 ≠ i3
section
variable {P : Program} {w : World} {K : PySem.W.Frag} {A : Around} {E : Value → Shared → Prop} {s : Shared} (S1 S2 S3 : SeqK P w K)
end
end L2

end

section
namespace L2
open PySem PySem.Spec PyProof.Rows
open AutoSeq1 (wpAny_loadPart')
def KpBut (a : Addr) (g g' : Heap) : Prop := ∀ b o, b ≠ a → g.get? b = some o → g'.get? b = some o
theorem KpBut.trans {a : Addr} {g g' g2 : Heap} (x : KpBut a g g') (y : KpBut a g' g2) : KpBut a g g2 := fun b o n e => y b o n (x b o n e)
theorem KpBut.upd {a : Addr} {g : Heap} (f : Obj → Obj) : KpBut a g (g.update a f) := fun b o n e => by rw [Heap.get?_update_ne _ _ _ _ n]; exact e
end L2

end

section
namespace L2
open PySem PySem.Spec PyProof.Rows
section
variable {X : Cx}
end
end L2

end

section
namespace L2
open PySem PySem.Spec PyProof.Rows
section
variable {X : Cx}
end
end L2

end

section
namespace L2
open PySem PySem.Spec PyProof.Rows
section
variable {prog : Program} {w : World} {A : Around} {R : Result → Shared → Prop} {s : Shared} {elt tg1 it1 tg2 it2 tg3 it3 : Expr} {ifs1 ifs2 ifs3 : List Expr} {scope : Scope} {pos : Pos} {it acc : Value} {env : Env}
end
def tIn3 (wi2 : TI) (g2 : TG) (tt2 : TT) (wi3 : TI) (g3 : TG) (tt3 : TT) (te : TE) : St → List V → Hp → (List V → Hp → Prop) → Prop := fun σ ys H N => wi2 σ H fun J H1 =>
 ∃ W : Nat → Nat → List V → Hp → Prop, (∃ m, W 0 m ys H1) ∧ ∀ j m zs H, W j m zs H →
  (J.stop j H ∧ N zs H) ∨
  (J.go j H ∧ ∃ N2 : List V → Hp → Prop, (∀ zs' H', N2 zs' H' → ∃ m', m' < m ∧ W (j + 1) m' zs' H') ∧ ∀ x H', J.yld j H x H' → g2 x σ H' fun σ3 H2 => Keep σ σ3 ∧ tt2 σ3 H2 fun b H3 =>
   br b (tIn2 wi3 g3 tt3 te σ3 zs H3 N2) (N2 zs H3))
end L2

end

section
namespace L2
open PySem PySem.Spec PyProof.Rows
section
variable {X : Cx}
end
def WalkO (J : It) (cap : List (Option Nat)) (g : TG) (tt : TT) (wi2 : TI) (g2 : TG) (tt2 : TT) (wi3 : TI) (g3 : TG) (tt3 : TT) (te : TE) (σ : St) (Q : List V → Hp → Prop) (H1 : Hp) : Prop :=
 ∃ W : Nat → Nat → List V → Hp → Prop, (∃ m, W 0 m [] H1) ∧ ∀ i m ys H, W i m ys H →
  (J.stop i H ∧ Q ys H) ∨
  (J.go i H ∧ ∃ N : List V → Hp → Prop, (∀ ys' H', N ys' H' → ∃ m', m' < m ∧ W (i + 1) m' ys' H') ∧ ∀ x H', J.yld i H x H' → g x (capOf cap σ) H' fun σ2 H2 => Keep (capOf cap σ) σ2 ∧ tt σ2 H2 fun b H3 =>
   br b (tIn3 wi2 g2 tt2 wi3 g3 tt3 te σ2 ys H3 N) (N ys H3))
end L2

end

section
namespace L2
open PySem PySem.Spec PyProof.Rows
section
variable {X : Cx}
end
end L2
namespace MF
open PySem PySem.Spec PyProof.Rows L2
end MF

end

section
namespace L2
open PySem PySem.Spec PyProof.Rows
section
variable {X : Cx}
theorem _root_.PySem.Paired.split {xs ys : List V} {us : List Value} (h : Vals (xs ++ ys) us) : Vals xs (us.take xs.length) ∧ Vals ys (us.drop xs.length) := by
 induction xs generalizing us with
 | nil => exact ⟨.nil, h⟩
 | cons x xs ih =>
  rcases h with _ | ⟨r, t⟩
  obtain ⟨a, b⟩ := ih t
  exact ⟨.cons r a, b⟩
end
end L2

end

section
namespace L2
open PySem PySem.Spec PyProof.Rows
open AutoSeq1 (wpAny_loadPart')
section
variable {P : Program} {w : World} {K : PySem.W.Frag} {A : Around} {E : Value → Shared → Prop} {s : Shared} (S1 S2 : SeqK P w K)
end
end L2

end

section
namespace L2
open PySem PySem.Spec PyProof.Rows
section
variable {X : Cx}
section
open HT
variable {prog : Program} {w : World} {A : Around} {E : Value → Shared → Prop} {s : Shared}
end
def rNeD : R2 := fun x y H Q => ∃ p d e, Rep p H d x ∧ Rep p H e y ∧ e.canLay0 = true ∧ e.hasDict = false ∧ e.depth ≤ 20 ∧ d.canLay0 = true ∧ d.hasDict = false ∧ Q (.bl (!PyData.eqv d e)) H
theorem o_neD {k : Nat} (hr : Room k X.A) : OpR X (compareOp .NotEq) rNeD := by
 intro pins s σ H x y v u Q I rx ry h
 obtain ⟨p, d, e, rd, re, ce, he, dp, cd, hd, q⟩ := h
 have un := hr.un
 obtain ⟨bs, rb⟩ := Rep.reads I e y u he re ry
 obtain ⟨as, ra⟩ := Rep.reads I d x v hd rd rx
 exact SeqAt.compareNe_reads ra rb cd ce (by omega) (fin_bl I q rfl)
end
end L2

end

section
namespace L2
open PySem PySem.Spec PyProof.Rows
structure XAt (P : Program) (w : World) (outer : List Env) (H : Hp) (s : Shared) (H' : Hp) (C e : Addr) (s' : Shared) : Prop where
 os : s'.os = s.os
 bare : AllBare s'.gens
 un : Un (frs outer) [] H H' s.heap s'.heap
 fly : ∃ B t, Heap.FlyingW B outer e (.ref C) t s'.heap ∧ (∀ b o, s.heap.get? b = some o → H b = none → b ∉ frs outer → B.get? b = some o) ∧
  (∀ b o, s.heap.get? b = some o → b ∉ frs outer → ∃ o', B.get? b = some o') ∧ HOk P w H' B
def CXE (P : Program) (w : World) : CXT := fun outer H s E v s' => ∃ C e H', v = .ref e ∧ XAt P w outer H s H' C e s' ∧ E (.ref C) none H'
structure IsDef (X : Cx) (E : XK) : Prop where
 stk : X.stack = X.env :: X.outer
 fr : X.env.frame = some X.env.locals
 ex : X.ex = []
 xe : ∀ e s', wpAny (model X.prog X.w) X.A (leaving X.env e) (fun _ s'' => CXE X.prog X.w X.outer X.H₀ X.s₀ E e s'') (fun _ _ => False) s' → X.xe e s'
section
variable {X : Cx} {pins : List (Addr × Obj)} {σ : St} {H H' : Hp} {s s' : Shared} {C e : Addr} {E : XK}
end
end L2

end

section
namespace L2
open PySem PySem.Spec PyProof.Rows PySem.W Builtin Builtin.ObjectAttr Builtin.Getset_descriptor
structure ExcCls (K : Frag) (D : Addr) : Prop where
 ga : findIn K (.ref D) "__getattribute__" = some (some (.builtin "BaseException.__getattribute__"))
 gt : findIn K (.ref D) "__getattr__" = some none
 cl : (clsIn K D).isSome = true
 ca : findIn K (.ref D) "__class__" = some (some (.builtin "object.__class__"))
 cn : specialIn K (.builtin "object.__class__") "__get__" = some (some (.builtin "getset_descriptor.__get__"))
 tk : takesIn K (.builtin "object.__class__") = some true
 ob : mroIn K D (.type "object") = some true
 bx : mroIn K D (.type "BaseException") = some true
section
variable {prog : Program} {w : World} {A : Around} {E : Value → Shared → Prop} {s : Shared} {K : Frag} {x D : Addr}
end
section
variable {X : Cx} {pins : List (Addr × Obj)} {σ : St} {H : Hp} {s : Shared} {A : Around} {E : Value → Shared → Prop} {Q : Value → Shared → Prop} {c : Value} {b : Bool} {a D : Addr}
end
end L2

end

section
namespace L2
open PySem PySem.Spec PyProof.Rows
section
variable {X : Cx} {E : XK} {st : Stmt} {rest : List Stmt} {t : TS}
end
section
variable {P : Program} {w : World} {K : PySem.W.Frag} {mg : Str → Option Value} {base : Heap}
structure FnE (P : Program) (w : World) (K : PySem.W.Frag) (mg : Str → Option Value) (base : Heap) (n : Nat) (x : Str) (ps : List Str) (sp : Sp) : Prop where
 ex : ∃ (f : Addr) (fd : FuncData), FnOk P w K mg base (CXE P w) n f fd ps sp ∧ mg x = some (.ref f) ∧ PySem.W.keepIn K (.ref f) = true ∧ Binds K fd ps []
end
end L2

end

section
namespace L2
open PySem PySem.Spec PyProof.Rows
section
variable {X : Cx} {pins : List (Addr × Obj)} {σ : St} {H : Hp} {s s' : Shared} {scope : Scope} {N' : List Str} {cap : List (Option Nat)} {A : Around} {outer : List Env} {qual : Str} {f : Addr} {cd : Value} {E : XK}
end
end L2

end

section
namespace L2
open PySem PySem.Spec PyProof.Rows
section
variable {X : Cx} {pins : List (Addr × Obj)} {σ : St} {H H' : Hp} {s s' : Shared}
end
structure RoomQ (k : Nat) (A : Around) : Prop where
 dp : A.depth + 3 * k + 5 < recursionLimit
 un : A.units + 16 * k + 200 < cLine
 gd : A.guards = some []
end L2

end

section
namespace L2
open PySem PySem.Spec PyProof.Rows
section
variable {P : Program} {w : World} {K : PySem.W.Frag} {mg : Str → Option Value} {base : Heap}
structure FnQ (P : Program) (w : World) (K : PySem.W.Frag) (mg : Str → Option Value) (base : Heap) (n : Nat) (x : Str) (ps : List Str) (sp : Sp) : Prop where
 ex : ∃ (f : Addr) (fd : FuncData), (∀ (A : Around) (outer : List Env) (s : Shared) (H : Hp) (args : Args) (us : List Value) (vs : List V) (Q : VK), RoomQ n A → Env0 P w K mg base A outer s H → BindsTo s fd args (ps.zip us) → Vals vs us → sp vs H Q E0 →
  codeAny (model P w) A (.call (.ref f) args) (CR CX0 outer P w H s Q E0) s) ∧ (∀ vs H Q E, sp vs H Q E → vs.length = ps.length) ∧ mg x = some (.ref f) ∧ PySem.W.keepIn K (.ref f) = true ∧ Binds K fd ps []
structure FnS (P : Program) (w : World) (K : PySem.W.Frag) (mg : Str → Option Value) (base : Heap) (n : Nat) (x : Str) (ps : List Str) (sp : List Env → Shared → Sp) : Prop where
 ex : ∃ (f : Addr) (fd : FuncData), (∀ (A : Around) (outer : List Env) (s : Shared) (H : Hp) (args : Args) (us : List Value) (vs : List V) (Q : VK), Room n A → Env0 P w K mg base A outer s H → BindsTo s fd args (ps.zip us) → Vals vs us → sp outer s vs H Q E0 →
  codeAny (model P w) A (.call (.ref f) args) (CR CX0 outer P w H s Q E0) s) ∧ mg x = some (.ref f) ∧ PySem.W.keepIn K (.ref f) = true ∧ Binds K fd ps []
end
section
variable {X : Cx} {H : Hp} {f : Addr} {Q : VK} {W : Addr → Str → Prop}
end
end L2

end

section
namespace L2
open PySem PySem.Spec PyProof.Rows
section
variable {X : Cx} {H : Hp} {f M : Addr} {Q : VK} {W : Addr → Str → Prop} {s1 : Shared}
end
end L2

end

section
namespace L2
open PySem PySem.Spec PyProof.Rows
section
variable {X : Cx} {pins : List (Addr × Obj)} {σ : St} {H : Hp} {s : Shared} {scope : Scope} {N' : List Str} {cap : List (Option Nat)} {P c : Addr} {ql : Str} {params : Arguments} {body : Expr} {pos : Pos}
end
end L2

end

section
namespace L2
open PySem PySem.Spec PyProof.Rows
section
variable {X : Cx} {scope : Scope} {N' : List Str} {cap : List (Option Nat)} {P c : Addr} {ql : Str} {params : Arguments} {body : Expr} {lpos p pos : Pos} {W : Addr → Str → Prop} {k : Nat} {te : XK → TE}
end
end L2

end

section
namespace L2
open PySem PySem.Spec PyProof.Rows
section
variable {X : Cx}
end
def theWords : List Str := ["plant", "story", "firing", "hour", "boiler", "prices", "way", "set", "tanks", "pump", "feeding", "readings", "start", "shifts", "book", "amount", "deed", "line", "text"]
def wordOk (K : PySem.W.Frag) (M : Addr) (ds : List Addr) (i : Nat) : Bool :=
 (PySem.W.findIn K (.ref (ds.getD i 0)) "__getattribute__" == some (some (.builtin "BaseException.__getattribute__"))) && (PySem.W.findIn K (.ref (ds.getD i 0)) "__getattr__" == some none) && (PySem.W.clsIn K (ds.getD i 0)).isSome &&
 (PySem.W.findIn K (.ref (ds.getD i 0)) "__class__" == some (some (.builtin "object.__class__"))) && (PySem.W.specialIn K (.builtin "object.__class__") "__get__" == some (some (.builtin "getset_descriptor.__get__"))) && (PySem.W.takesIn K (.builtin "object.__class__") == some true) &&
 (PySem.W.mroIn K (ds.getD i 0) (.type "object") == some true) && (PySem.W.mroIn K (ds.getD i 0) (.type "BaseException") == some true) && (PySem.W.mroIn K (ds.getD i 0) (.ref M) == some true) &&
 ((List.range 19).all fun j => PySem.W.kitOne K (.ref (ds.getD i 0)) (.ref (ds.getD j 0)) == some (j == i)) && (PySem.W.kitOne K (.ref (ds.getD i 0)) (.type "ValueError") == some true)
structure Wd (K : PySem.W.Frag) (M : Addr) (ds : List Addr) (C : Addr) (word : Str) : Prop where
 ex : ∃ i, i < 19 ∧ C = ds.getD i 0 ∧ theWords[i]? = some word ∧ wordOk K M ds i = true
section
variable {K : PySem.W.Frag} {M : Addr} {ds : List Addr} {i : Nat}
end
end L2

end

section
namespace L2
open PySem PySem.Spec PyProof.Rows
end L2

end

section
namespace L2
open PySem PySem.Spec PyProof.Rows
structure WdK (K : PySem.W.Frag) (M : Addr) (ds : List Addr) (C : Addr) (word : Str) : Prop where
 ex : ∃ i, i < 16 ∧ C = ds.getD i 0 ∧ theWords[i]? = some word ∧ wordOk K M ds i = true
section
variable {X : Cx}
end
end L2

end

section
namespace L2
open PySem PySem.Spec PyProof.Rows
def GotL (H : Hp) (xs : List V) (Q : VK) : Prop := ∀ r H', Same H H' → H r = none → H' r = some (.lst xs) → Q (.ref r) H'
theorem GotL.at {H : Hp} {xs : List V} {Q : VK} (q : GotL H xs Q) : ∀ p, H p = none → Q (.ref p) (upd H p (.lst xs)) := fun p hp => q p _ (Same.new hp) hp upd_same
section
variable {X : Cx} {es : List Expr} {t : TA} {pos : Pos}
def cTupG (t : TA) : TE := fun σ H Q => t σ H fun xs H1 => match Nat.ble xs.length 64 with | true => Got H1 xs Q | false => False
def cLstG (t : TA) : TE := fun σ H Q => t σ H fun xs H1 => match Nat.ble xs.length 64 with | true => GotL H1 xs Q | false => False
theorem c_tupG {x1} (h : PA X es t) : PE X (.Tuple es x1 pos) (cTupG t) := by
 intro pins s σ H Q I hq
 refine wpAny_Tuple_spliced (thn (h pos pins s σ H _ I hq) fun us s1 ⟨xs, H1, I1, r, q⟩ => ?_)
 dsimp only at q
 split at q
 ·rename_i z
  refine ⟨by rw [← r.length]; exact few z, ?_⟩
  have hf : H1 s1.heap.objs.size = none := I1.hok.fresh (Nat.le_refl _)
  refine ⟨.ref s1.heap.objs.size, upd H1 s1.heap.objs.size (.tup xs), I1.laid (t' := s1.toks) (fun b u e => Heap.get?_push_of_some _ e) (Nat.le_refl _) ?_, rfl, q _ _ (Same.new hf) upd_same⟩
  exact ⟨few z, us, r, ⟨_, Heap.get?_push_size _ rfl, rfl, _, rfl⟩⟩
 ·exact q.elim
theorem c_lstG (h : PA X es t) : PE X (.List es pos) (cLstG t) := by
 intro pins s σ H Q I hq
 refine wpAny_List_spliced (thn (h pos pins s σ H _ I hq) fun us s1 ⟨xs, H1, I1, r, q⟩ => ?_)
 dsimp only at q
 split at q
 ·rename_i z
  refine ⟨by rw [← r.length]; exact few z, ?_⟩
  have hf : H1 s1.heap.objs.size = none := I1.hok.fresh (Nat.le_refl _)
  refine ⟨.ref s1.heap.objs.size, upd H1 s1.heap.objs.size (.lst xs), I1.laid (t' := s1.toks) (fun b u e => Heap.get?_push_of_some _ e) (Nat.le_refl _) ?_, rfl, q.at _ hf⟩
  exact ⟨few z, us, 0, r, Heap.get?_push_size _ rfl⟩
 ·exact q.elim
def rCatG : R2 := fun x y H Q => ∃ l b xs zs, x = .ref l ∧ y = .ref b ∧ H l = some (.lst xs) ∧ H b = some (.lst zs) ∧ xs.length + zs.length ≤ sizeLine ∧ GotL H (xs ++ zs) Q
theorem op_catG : OpR X (binaryOp .Add) rCatG := by
 intro pins s σ H x y v u Q I rx ry h
 obtain ⟨l, b, xs, zs, e1, e2, h1, h2, hz, q⟩ := h
 exact op_cat pins s σ H x y v u Q I rx ry ⟨l, b, xs, zs, e1, e2, h1, h2, hz, q.at⟩
end
end L2

end

section
namespace L2
open PySem PySem.Spec PyProof.Rows
section
variable {X : Cx}
end
end L2
namespace MF
open PySem PySem.Spec PyProof.Rows L2
def spareOf (p : Int) (q : Int × Int) : Int := if q.2 < p then q.1 * (q.2 - p) else 0
def spared (r co : List Int) (p : Int) : Int := ((r.zip co).map (spareOf p)).sum
def keptAt (lo hi p b : Int) : Int := (p - b) * (if b < p then lo else hi)
def floorAt (T : TM) (h : Nat) (p b : Int) : Int := p * T.ds.getD h 0 + spared (T.cs.getD h []) T.co p + keptAt T.lo T.hi p b
def floorsTo (T : TM) (ns : List Int) (k : Nat) : Int := ((List.range k).map fun h => floorAt T h (ns.getD h 0) (ns.getD (h + 1) 0)).sum
def floorOf (T : TM) (ns : List Int) : Int := floorsTo T ns ns.length - ns.getD 0 0 * T.st
structure FlOk (T : TM) : Prop where
 ok : T.ok
 c : ∀ r ∈ T.cs, r.length = T.co.length ∧ ∀ c ∈ r, 0 ≤ c ∧ c ≤ 20
 o : T.co.length ≤ 4
 o1 : ∀ c ∈ T.co, 1 ≤ c ∧ c ≤ 9
 d : ∀ x ∈ T.ds, 0 ≤ x ∧ x ≤ 100
 l0 : 0 ≤ T.lo
 h0 : 0 ≤ T.hi
 s0 : 0 ≤ T.st
 l4 : T.lo ≤ 100
 h4 : T.hi ≤ 100
 s4 : T.st ≤ 100
theorem getD_mem {α : Type} {l : List α} {i : Nat} {d : α} (h : i < l.length) : l.getD i d ∈ l := by
 rw [List.getD_eq_getElem?_getD, List.getElem?_eq_getElem h]; exact List.getElem_mem h
def isNN (d : PyData) : Bool := match d with | .int i => decide (0 ≤ i) | _ => false
theorem terms_fl {P : PL} {S : SY} (ok : P.ok) {n : Nat} (so : S.ok n) : FlOk (terms P S) := by
 have h0 := ok.lo0
 have h1 := ok.ls
 have h2 := ok.sh
 have h3 := ok.h4
 refine ⟨terms_ok so, fun r hr => ⟨by rw [(caps_bd ok r hr).2]; show P.bs.length = (P.bs.map (·.2)).length; rw [List.length_map], fun c hc => by have := (caps_bd ok r hr).1 c hc; omega⟩, by show (P.bs.map (·.2)).length ≤ 4; rw [List.length_map]; exact ok.b4, fun c hc => ?_, fun x hx => ?_, h0, ?_, ?_, ?_, ?_, ?_⟩
 ·obtain ⟨q, hq, rfl⟩ := List.mem_map.mp hc
  have := ok.b q hq
  omega
 ·have := draws_bd ok so x hx; omega
 ·show 0 ≤ P.hi; omega
 ·show 0 ≤ P.st; omega
 ·show P.lo ≤ 100; omega
 ·show P.hi ≤ 100; omega
 ·show P.st ≤ 100; omega
theorem cut1 {xs : List V} : cutV xs (some 1) none = xs.drop 1 := by
 have e1 : HT.sIx xs.length xs.length none = xs.length := rfl
 have e2 : HT.sIx xs.length 0 (some 1) = min 1 xs.length := HT.sIx_nat _ _ 1
 unfold cutV
 rw [e1, e2]
 cases xs with
 | nil => rfl
 | cons a l => rw [Nat.min_eq_left (by simp)]; simp
end MF

end

section
namespace L2
open PySem PySem.Spec PyProof.Rows
theorem entry_itemiter_iter : entryFor table "dict_itemiterator.__iter__" = some Builtin.«dict_keyiterator.__iter__» := entryFor_alias (id' := "dict_keyiterator.__iter__") (by kernel_rfl) rfl (by decide +kernel) (by kernel_rfl)
theorem keyRel {P : Program} {w : World} {k : Key} {v : Value} (h : (mixKind P w).is k v = true) : RelV (kV k) v := by
 rw [mixKind_is] at h
 rcases keyIs_shape h with ⟨i, t, rfl, rfl⟩ | ⟨x, t, rfl, rfl⟩
 ·exact ⟨t, rfl⟩
 ·exact ⟨t, rfl⟩
theorem KV.get {κ : Type} : ∀ {ks : List (κ × V)} {vs : List (κ × Value)} {i : Nat} {q : κ × V}, KV ks vs → ks[i]? = some q → ∃ u, vs[i]? = some (q.1, u) ∧ RelV q.2 u
 | _, _, _, _, .nil, e => by simp at e
 | _, _, 0, _, .cons (b := b) r _, e => by
  simp at e; subst e
  exact ⟨b.2, by rw [r.1]; rfl, r.2⟩
 | _, _, i + 1, q, .cons _ t, e => by
  obtain ⟨u, h1, h2⟩ := KV.get (i := i) (q := q) t (by simpa using e)
  exact ⟨u, by simpa using h1, h2⟩
theorem Inv.dictAt {X : Cx} {pins : List (Addr × Obj)} {σ : St} {H : Hp} {s : Shared} {d : Addr} {o : Obj} {kvs : List (Key × V)} {es : Array DictEntry} {ep : Nat} (I : Inv X pins σ H s) (h : H d = some (.frz o (.dK kvs))) (ho : o.data = .dict es ep) :
  ∃ vs, KV kvs vs ∧ s.heap.DictAt (mixKind X.prog X.w) d vs ep := by
 obtain ⟨e, _, _, vs, kv, o', es', ep', e', c, dd, r⟩ := (show ObjOk X.prog X.w H s.heap d (.frz o (.dK kvs)) from I.hok d _ h)
 rw [e] at e'; cases e'
 rw [ho] at dd; cases dd
 exact ⟨vs, kv, o, es, e, c, ho, r⟩
def Itm (d : Addr) (o : Obj) (kvs : List (Key × V)) : It :=
 ⟨fun i H => H d = some (.frz o (.dK kvs)) ∧ i < kvs.length, fun i H v H' => ∃ T q, v = .ref T ∧ H T = none ∧ kvs[i]? = some q ∧ H' = upd H T (.tup [kV q.1, q.2]), fun i H => H d = some (.frz o (.dK kvs)) ∧ kvs.length = i⟩
theorem turn_items {P : Program} {w : World} {K : PySem.W.Frag} {es : List Expr} {k : Nat} {pos : Pos} {o : Obj} {kvs : List (Key × V)} {es0 : Array DictEntry} {ep : Nat} (d it : Addr) (ho : o.data = .dict es0 ep) (hdi : d ≠ it) :
  Turn P w K (.Tuple es k pos) (Itm d o kvs) [it] it (fun i h => ∃ ok ov, IsItemIter h it d i kvs.length ep ok ov) where
 mem := by simp
 obj := fun i h st b hb => by
  obtain ⟨ok, ov, he⟩ := st
  rw [List.mem_singleton.mp hb]
  exact ⟨_, he, fun v z => by
   have z' : Data.fields _ = Data.cell v := z
   cases z'⟩
 keep := fun i h h' st kk => by obtain ⟨ok, ov, he⟩ := st; exact ⟨ok, ov, kk it (by simp) _ he⟩
 item := by
  intro X hP hw hK hc i pins s σ H E I hf st hg
  subst hP hw
  obtain ⟨ok, ov, he⟩ := st
  obtain ⟨hd, hlt⟩ := hg
  obtain ⟨vs, kv, hm⟩ := I.dictAt hd ho
  have hl : kvs.length = vs.length := Paired.length kv
  have hq : kvs[i]? = some kvs[i] := by simp [hlt]
  obtain ⟨u, hu, ru⟩ := kv.get hq
  rw [hl] at he
  refine wpAny_pyNext_items_item he hm hu fun key h1 hkey hout htup hsz hk => ⟨_, rfl, wpAny_letOwnedTupleGo_items hout fun h2 he2 hs2 => ?_⟩
  have hiH : it < s.heap.objs.size := Heap.lt_size he
  have kk : ∀ b ob, b ∉ [it] → s.heap.get? b = some ob → h2.get? b = some ob := fun b ob hb q => hs2.extBut b ob (fun z => hb (by rw [z]; simp)) (hk b ob (fun z => hb (by rw [z]; simp)) q)
  have ht2 : IsTup h2 s.heap.objs.size [key, u].toArray := ⟨_, (hs2.2 _ (Nat.ne_of_gt hiH)).trans htup, rfl, _, rfl⟩
  exact ⟨.ref s.heap.objs.size, upd H s.heap.objs.size (.tup [kV kvs[i].1, kvs[i].2]), I.yielded (tk := s.toks) (fun b hb => hf b hb) kk (Nat.le_refl _) ht2 (.cons (keyRel hkey) (.cons ru .nil)) (by show 2 ≤ sizeLine; decide), rfl,
   ⟨_, kvs[i], rfl, I.hok.fresh (Nat.le_refl _), hq, rfl⟩, ⟨key, u, by rw [hl]; exact he2⟩, fun b hb => by
    rw [List.mem_singleton.mp hb, upd_ne (Nat.ne_of_lt hiH)]; exact (hf it (by simp)).1⟩
 done := by
  intro X hP hw hK hc i pins s σ H E I hf st hg
  subst hP hw
  obtain ⟨ok, ov, he⟩ := st
  obtain ⟨hd, hlt⟩ := hg
  obtain ⟨vs, kv, hm⟩ := I.dictAt hd ho
  have hl : kvs.length = vs.length := Paired.length kv
  rw [hl] at he
  refine wpAny_pyNext_items_end (I.ok.hd hc) he hm (by rw [List.getElem?_eq_none]; omega) fun h' he' => ⟨rfl, I.ended (tk := s.toks) (fun b hb => hf b hb) fun b ob hb q => he' b ob (fun z => hb (by rw [z]; simp)) q⟩
 self := fun A i s Q E st h => by
  obtain ⟨ok, ov, he⟩ := st
  have hT : s.TypeIs (.ref it) "dict_itemiterator" := ⟨_, he, rfl⟩
  refine wpAny_pyIter_slot hT F.slot_dict_itemiterator_iter (wpAny_call_entry F.slot_dict_itemiterator_iter hT entry_itemiter_iter ?_ (F.args_dict_itemiterator_iter_1 _))
  show wpAny _ _ (ret (.ref it)) _ _ s
  exact wpAny_pure ⟨_, rfl, "dict_itemiterator", _, hT, F.slot_dict_itemiterator_next.lookup, h⟩
def iItems (te : TE) : TI := fun σ H R => te σ H fun x H1 => ∃ d o kvs, x = .ref d ∧ H1 d = some (.frz o (.dK kvs)) ∧ R (Itm d o kvs) H1
theorem pi_items {X : Cx} {es : List Expr} {k : Nat} {pos' apos cpos : Pos} {e : Expr} {te : TE} (he : PE X e te) (hbase : attributeBase e "items" X.env (eval e X.env) = eval e X.env := by rfl) (hline : (apos.endLine == cpos.line) = true := by rfl) :
  PI X (.Tuple es k pos') (.Call (.Attribute e "items" apos) [] [] cpos) (iItems te) := by
 intro pins s σ H R I h
 refine wpAny_Call_method0_late hbase hline (thn (he pins s σ H _ I h) fun v s1 ⟨x, H1, I1, r1, d, o, kvs, ex, hd, q⟩ => ?_)
 subst ex
 cases r1
 obtain ⟨eo, _, hsys, vs0, kv0, hm0⟩ := (show ObjOk X.prog X.w H1 s1.heap d (.frz o (.dK kvs)) from I1.hok d _ hd)
 obtain ⟨o', es0, ep, e', c, dd, r⟩ := id hm0
 have eoo : o' = o := by rw [eo] at e'; exact (Option.some.inj e').symm
 subst eoo
 refine ⟨"dict", "dict.items", F.plainAttrs_dict, F.slot_dict_items, F.type_dict_items, hm0.typeIs, hm0.mapOf.noDict, ?_⟩
 refine method_meetsIn F.slot_dict_items F.entry_dict_items rfl (PySem.evalArgs_none ⟨rfl, hm0.typeIs, F.args_dict_items_1 _, _, meets_dict_items (mixKind X.prog X.w) d hsys, ⟨_, hm0⟩, ?_⟩)
 have hlt := Heap.lt_size eo
 have hz : (s1.heap.push { cls := .type "dict_items", data := .fields #[.ref d] }).objs.size = s1.heap.objs.size + 1 := Heap.size_push ..
 have hm1 : s1.heap.DictAt (mixKind X.prog X.w) d vs0 ep := ⟨o', es0, eo, c, dd, r⟩
 refine wpAny_pyIter_items (knd := mixKind X.prog X.w) (d := d) (kvs := vs0) (ep := ep) ⟨_, Heap.get?_push_size _ rfl, rfl, rfl⟩ (hm1.push _) ?_
 have hl : kvs.length = vs0.length := Paired.length kv0
 dsimp only
 have kk : ∀ b ob, s1.heap.get? b = some ob → ((s1.heap.push { cls := .type "dict_items", data := .fields #[.ref d] }).push { cls := .type "dict_itemiterator", data := .fields #[.none, .bool false, .ref d, .int 0 0, .int vs0.length 0, .int ep 0, .none, .none] }).get? b = some ob := fun b ob q => Heap.get?_push_of_some _ (Heap.get?_push_of_some _ q)
 have hit : ((s1.heap.push { cls := .type "dict_items", data := .fields #[.ref d] }).push { cls := .type "dict_itemiterator", data := .fields #[.none, .bool false, .ref d, .int 0 0, .int vs0.length 0, .int ep 0, .none, .none] }).get? (s1.heap.objs.size + 1) = some { cls := .type "dict_itemiterator", data := .fields #[.none, .bool false, .ref d, .int 0 0, .int vs0.length 0, .int ep 0, .none, .none] } := by
  rw [← hz]; exact Heap.get?_push_size _ rfl
 rw [hz]
 generalize (s1.heap.push { cls := .type "dict_items", data := .fields #[.ref d] }).push { cls := .type "dict_itemiterator", data := .fields #[.none, .bool false, .ref d, .int 0 0, .int vs0.length 0, .int ep 0, .none, .none] } = h2 at kk hit
 refine ⟨s1.heap.objs.size + 1, [s1.heap.objs.size + 1], _, _, H1, rfl, I1.kept (t' := s1.toks) kk, turn_items (o := o') (kvs := kvs) d (s1.heap.objs.size + 1) dd (Nat.ne_of_lt (Nat.lt_succ_of_lt hlt)), ⟨.none, .none, by rw [hl]; exact hit⟩, fun b hb => ?_, q⟩
 rw [List.mem_singleton.mp hb]; exact I1.fpOk (Nat.le_succ _) (I1.hok.fresh (Nat.le_succ _))
theorem walk_items {d : Addr} {o : Obj} {kvs : List (Key × V)} {cap : List (Option Nat)} {g : TG} {tt : TT} {te : TE} {σ : St} {Q : List V → Hp → Prop} {H : Hp} (Pv : Nat → List V → Hp → Prop) (hn : kvs.length ≤ 100000) (h0 : Pv 0 [] H) (hz : ∀ i zs H, Pv i zs H → zs.length ≤ i)
  (hl : ∀ i zs H, Pv i zs H → H d = some (.frz o (.dK kvs)))
  (hs : ∀ i q zs H T, kvs[i]? = some q → Pv i zs H → H T = none → g (.ref T) (capOf cap σ) (upd H T (.tup [kV q.1, q.2])) fun σ2 H2 => Keep (capOf cap σ) σ2 ∧ tt σ2 H2 fun b H3 => br b (te σ2 H3 fun y H4 => Pv (i + 1) (zs ++ [y]) H4) (Pv (i + 1) zs H3))
  (hd : ∀ zs H, Pv kvs.length zs H → Q zs H) : Walk (Itm d o kvs) cap g tt te σ Q H :=
 walk_n kvs.length Pv hn h0 hz (fun i zs H hi p => ⟨⟨hl i zs H p, hi⟩, fun v H' ⟨T, q, e, n, hq, y⟩ => by
  subst e y
  exact hs i q zs H T hq p n⟩)
  fun zs H p => ⟨⟨hl _ zs H p, rfl⟩, hd zs H p⟩
end L2

end

section
namespace L2
open PySem PySem.Spec PyProof.Rows
abbrev KL := List (Key × V)
def putK (ks : KL) (k : Key) (v : V) : KL := if ks.any (fun q => q.1 = k) then ks.map (fun q => if q.1 = k then (q.1, v) else q) else ks ++ [(k, v)]
theorem KV.anyK {k : Key} : ∀ {ks : KL} {vs : List (Key × Value)}, KV ks vs → ks.any (fun q => q.1 = k) = vs.any (fun q => q.1 = k)
 | _, _, .nil => rfl
 | _, _, .cons r t => by rw [List.any_cons, List.any_cons, KV.anyK t, r.1]
theorem KV.mapK {k : Key} {v : V} {u : Value} (h : RelV v u) : ∀ {ks : KL} {vs : List (Key × Value)}, KV ks vs → KV (ks.map fun q => if q.1 = k then (q.1, v) else q) (vs.map fun q => if q.1 = k then (q.1, u) else q)
 | _, _, .nil => .nil
 | _, _, .cons (a := a) (b := b) r t => by
  rw [List.map_cons, List.map_cons]
  refine .cons ?_ (KV.mapK h t)
  rw [← r.1]
  split
  ·exact ⟨r.1 ▸ rfl, h⟩
  ·exact r
theorem KV.snoc {κ : Type} {q : κ × V} {p : κ × Value} (h : q.1 = p.1 ∧ RelV q.2 p.2) : ∀ {ks : List (κ × V)} {vs : List (κ × Value)}, KV ks vs → KV (ks ++ [q]) (vs ++ [p])
 | _, _, .nil => .cons h .nil
 | _, _, .cons r t => .cons r (KV.snoc h t)
theorem KV.put {k : Key} {v : V} {u : Value} (h : RelV v u) {ks : KL} {vs : List (Key × Value)} (r : KV ks vs) : KV (putK ks k v) (stored vs k u) := by
 unfold putK stored
 rw [r.anyK]
 split
 ·exact KV.mapK h r
 ·exact KV.snoc ⟨rfl, h⟩ r
theorem putK_len (ks : KL) (k : Key) (v : V) : (putK ks k v).length ≤ ks.length + 1 := by
 unfold putK
 split
 ·rw [List.length_map]; omega
 ·rw [List.length_append]; simp
theorem kV_key {k : Key} {u : Value} (P : Program) (w : World) (h : RelV (kV k) u) : (mixKind P w).is k u = true := by
 cases k with
 | inl i => obtain ⟨t, rfl⟩ := h; exact mixKind_int P w i t
 | inr x => obtain ⟨t, rfl⟩ := h; exact mixKind_str P w x t
section
variable {prog : Program} {w : World} {A : Around} {R : Result → Shared → Prop} {s : Shared} {kx vx tg it : Expr} {ifs : List Expr} {sc : Scope} {ps : Pos} {itv : Value} {D : Addr} {env : Env}
theorem loopD (ht : ∀ v, letOwnedTupleGo tg itv v = pure ()) (I : Nat → Shared → Prop)
  (turn : ∀ n s, I n s → wpAny (model prog w) A (pyNext itv) (fun r s1 => match r with
   | none => R (.ok .next) s1
   | some v => wpAny (model prog w) A (letOwnedTupleGo tg itv v) (fun _ s2 => wpAny (model prog w) A (assign tg env v) (fun _ s3 =>
     wpAny (model prog w) A (forIn ifs true fun c r => if r = true then do let ok ← isTrue c env (eval c env); pure (ForInStep.yield ok) else pure (ForInStep.yield r)) (fun ok s4 =>
      if ok = true then wpAny (model prog w) A (eval kx env) (fun kv s5 => wpAny (model prog w) A (eval vx env) (fun vv s6 => wpAny (model prog w) A (dictSet D kv vv) (fun _ s7 => ∃ m, m < n ∧ I m s7) (fun _ _ => False) s6) (fun _ _ => False) s5) (fun _ _ => False) s4
      else ∃ m, m < n ∧ I m s4) (fun _ _ => False) s3) (fun _ _ => False) s2) (fun _ _ => False) s1) (fun _ _ => False) s)
  (n : Nat) (h : I n s) : codeAny (model prog w) A (.compLoop (.DictComp kx vx [⟨tg, it, ifs, 0⟩] sc ps) 0 itv (.ref D) env) R s := by
 refine codeAny_compLoop_testsD I (fun m s0 hI => wpAny_mono (turn m s0 hI) (fun r s1 h1 => ?_) fun _ _ z => z.elim) n h ht
 cases r with
 | none => exact h1
 | some v =>
  have both := wpAny_bind h1
  rw [ht v, pure_bind] at both
  refine wpAny_mono both (fun _ s3 h3 => wpAny_mono h3 (fun ok s4 h4 => ?_) fun _ _ z => z.elim) fun _ _ z => z.elim
  cases ok with
  | false => exact h4
  | true => exact wpAny_mono h4 (fun kv s5 h5 => wpAny_mono h5 (fun vv s6 h6 => wpAny_mono h6 (fun _ _ z => z) fun _ _ z => z.elim) fun _ _ z => z.elim) fun _ _ z => z.elim
end
structure GrownD (Y : Cx) (a : Addr) (PB : List (Addr × Obj)) (σ : St) (zs : KL) (H : Hp) (s : Shared) : Prop where
 inv : Inv Y PB σ H s
 no : H a = none
 len : zs.length ≤ sizeLine
 at' : ∃ o vs, s.heap.get? a = some o ∧ KV zs vs ∧ s.heap.DictOf (mixKind Y.prog Y.w) a vs
def DictO (P : Program) (w : World) (o : Obj) (vs : List (Key × Value)) : Prop := ∃ es ep, o.ExactDict ∧ o.data = .dict es ep ∧ KeysOf (mixKind P w) es ∧ Pairs (mixKind P w) es.toList vs ∧ (vs.map (·.1)).Nodup
theorem DictO.of {P : Program} {w : World} {h : Heap} {a : Addr} {o : Obj} {vs : List (Key × Value)} (d : h.DictOf (mixKind P w) a vs) (e : h.get? a = some o) : DictO P w o vs := by
 obtain ⟨o', es, ep, e', r⟩ := d
 rw [e] at e'; cases e'
 exact ⟨es, ep, r⟩
theorem DictO.to {P : Program} {w : World} {h : Heap} {a : Addr} {o : Obj} {vs : List (Key × Value)} (d : DictO P w o vs) (e : h.get? a = some o) : h.DictOf (mixKind P w) a vs := by
 obtain ⟨es, ep, r⟩ := d
 exact ⟨o, es, ep, e, r⟩
theorem GrownD.pin {Y : Cx} {a : Addr} {PB : List (Addr × Obj)} {σ : St} {zs : KL} {H : Hp} {s : Shared} {o : Obj} {vs : List (Key × Value)} (A : AccOk Y a) (g : GrownD Y a PB σ zs H s) (e : s.heap.get? a = some o) (d : DictO Y.prog Y.w o vs) : Inv Y ((a, o) :: PB) σ H s :=
 g.inv.pins_of fun p hp => by
  rcases List.mem_cons.mp hp with rfl | hp
  ·exact ⟨e, g.no, A.loc, A.fs, fun v z => by
    obtain ⟨es, ep, _, dd, _⟩ := d
    have z' : o.data = .cell v := z
    rw [dd] at z'; cases z'⟩
  ·exact g.inv.pin p (List.mem_append_right _ hp)
theorem Inv.grownD {Y : Cx} {a : Addr} {PB : List (Addr × Obj)} {σ : St} {zs : KL} {H : Hp} {s : Shared} {o : Obj} {vs : List (Key × Value)} (I : Inv Y ((a, o) :: PB) σ H s) (hz : zs.length ≤ sizeLine) (v : KV zs vs) (d : DictO Y.prog Y.w o vs) : GrownD Y a PB σ zs H s := by
 have q := I.pin (a, o) (List.mem_append_right _ List.mem_cons_self)
 exact ⟨I.pins_of fun p hp => I.pin p (List.mem_append_right _ (List.mem_cons_of_mem _ hp)), q.2.1, hz, o, vs, q.1, v, d.to q.1⟩
def tCompD (wi : TI) (cap : List (Option Nat)) (g : TG) (tt : TT) (tk te : TE) : St → Hp → (KL → Hp → Prop) → Prop := fun σ H Q => wi σ H fun J H1 =>
 ∃ W : Nat → Nat → KL → Hp → Prop, (∃ m, W 0 m [] H1) ∧ ∀ i m ys H, W i m ys H →
  (J.stop i H ∧ Q ys H) ∨
  (J.go i H ∧ ys.length < sizeLine ∧ ∃ N : KL → Hp → Prop, (∀ ys' H', N ys' H' → ∃ m', m' < m ∧ W (i + 1) m' ys' H') ∧ ∀ x H', J.yld i H x H' → g x (capOf cap σ) H' fun σ2 H2 => Keep (capOf cap σ) σ2 ∧ tt σ2 H2 fun b H3 =>
   br b (tk σ2 H3 fun k H4 => te σ2 H4 fun y H5 => ∃ kk, k = kV kk ∧ N (putK ys kk y) H5) (N ys H3))
theorem loop_okD {kx vx tg it : Expr} {ifs : List Expr} {sc : Scope} {ps : Pos} {m0 : Nat} {Y : Cx} {a jt : Addr} {PB : List (Addr × Obj)} {g : TG} {tt : TT} {tk te : TE} {fp : List Addr} {tn : Nat → Heap → Prop} {J : It} {W : Nat → Nat → KL → Hp → Prop} {σ : St} {ys : KL} {H : Hp} {s : Shared} {N : KL → Hp → Prop} {R : Result → Shared → Prop}
  (A : AccOk Y a) (hnm : ∀ itv v, letOwnedTupleGo tg itv v = pure ()) (hPB : ∀ p ∈ PB, p.1 ≠ a) (hx : Y.xe = fun _ _ => False) (hg : PG Y tg g) (htt : PTs Y ifs tt) (hk : PE Y kx tk) (he : PE Y vx te)
  (T : Turn Y.prog Y.w Y.K tg J fp jt tn) (na : ∀ b ∈ fp, b ≠ a) (fpY : ∀ {o : Obj} {H' : Hp}, (∀ b ∈ fp, H' b = none) → ∀ b ∈ fp, FpOk Y ((a, o) :: PB) H' b) (st : tn 0 s.heap) (gr : GrownD Y a PB σ ys H s) (hn : ∀ b ∈ fp, H b = none) (w0 : W 0 m0 ys H)
  (turn : ∀ j m zs H, W j m zs H → (J.stop j H ∧ N zs H) ∨ (J.go j H ∧ zs.length < sizeLine ∧ (∃ N2 : KL → Hp → Prop, (∀ zs' H', N2 zs' H' → ∃ m', m' < m ∧ W (j + 1) m' zs' H') ∧ ∀ x H', J.yld j H x H' → g x σ H' fun σ3 H2 => Keep σ σ3 ∧ tt σ3 H2 fun b H3 => br b (tk σ3 H3 fun k H4 => te σ3 H4 fun y H5 => ∃ kk, k = kV kk ∧ N2 (putK zs kk y) H5) (N2 zs H3))))
  (back : ∀ zs H' s', GrownD Y a PB σ zs H' s' → N zs H' → R (.ok .next) s') : codeAny (model Y.prog Y.w) Y.A (.compLoop (.DictComp kx vx [⟨tg, it, ifs, 0⟩] sc ps) 0 (.ref jt) (.ref a) Y.env) R s := by
 refine loopD (hnm _) (fun n' s' => ∃ (j : Nat) (zs : KL) (H' : Hp), GrownD Y a PB σ zs H' s' ∧ tn j s'.heap ∧ (∀ b ∈ fp, H' b = none) ∧ W j n' zs H') ?_ m0 ⟨0, ys, H, gr, st, hn, w0⟩
 rintro n' s12 ⟨j, zs, H12, g12, st12, fr12, w12⟩
 obtain ⟨o12, vs12, e12, v12, d12⟩ := g12.at'
 have do12 := DictO.of d12 e12
 have I12 := g12.pin A e12 do12
 rcases turn j n' zs H12 w12 with ⟨stop, q⟩ | ⟨go2, hz0⟩
 ·refine thn (T.done Y rfl rfl rfl A.calm j _ s12 _ H12 _ I12 (fpY fr12) st12 stop) fun r s13 ⟨hr, I13⟩ => ?_
  subst hr
  exact back zs H12 s13 (Inv.grownD I13 g12.len v12 do12) q
 ·obtain ⟨hC, N2, hN2, step2⟩ := hz0
  refine thn (T.item Y rfl rfl rfl A.calm j _ s12 _ H12 _ I12 (fpY fr12) st12 go2) fun r s13 ⟨u2, hr, h13⟩ => ?_
  subst hr
  refine thn h13 fun _ s14 ⟨x2, H14, I14, r14, y14, st14, fr14⟩ => ?_
  have I14' := I14.pinned (fpY fr14) (T.obj _ _ st14)
  have hgY := hg _ s14 _ H14 x2 u2 _ I14' r14 (step2 x2 H14 y14)
  rw [hx] at hgY
  refine thn hgY fun _ s15 ⟨σ15, H15, I15, kp2, q15⟩ => ?_
  have htY := htt _ s15 σ15 H15 _ I15 q15
  rw [hx] at htY
  refine thn htY fun b2 s16 ⟨H16, I16, q16⟩ => ?_
  have pn : ∀ p ∈ PB ++ pinsAt fp s14.heap, p.1 ≠ a := fun p hp => by
   rcases List.mem_append.mp hp with hp | hp
   ·exact hPB p hp
   ·exact na p.1 (of_pinsAt hp).1
  have back2 : ∀ {σ' : St} {zs' : KL} {H' : Hp} {s' : Shared}, Keep σ σ' → GrownD Y a (PB ++ pinsAt fp s14.heap) σ' zs' H' s' → N2 zs' H' → ∃ m, m < n' ∧ ∃ (j : Nat) (zs : KL) (H' : Hp), GrownD Y a PB σ zs H' s' ∧ tn j s'.heap ∧ (∀ b ∈ fp, H' b = none) ∧ W j m zs H' := fun {σ' zs' H' s'} kp G n2 => by
   obtain ⟨m', hm, w16⟩ := hN2 _ _ n2
   refine ⟨m', hm, j + 1, zs', H', ⟨(G.inv.pins_of fun p hp => G.inv.pin p (List.mem_append_right _ (List.mem_append_left _ hp))).weak (by rw [kp.len]) fun i v e => kp.get e, G.no, G.len, G.at'⟩, T.keep _ _ _ st14 fun b hb o e => (G.inv.pin (b, o) (List.mem_append_right _ (List.mem_append_right _ (mem_pinsAt hb e)))).1, fun b hb => ?_, w16⟩
   obtain ⟨o, e, d⟩ := T.obj _ _ st14 b hb
   exact (G.inv.pin (b, o) (List.mem_append_right _ (List.mem_append_right _ (mem_pinsAt hb e)))).2.1
  have g16 : GrownD Y a (PB ++ pinsAt fp s14.heap) σ15 zs H16 s16 := Inv.grownD I16 g12.len v12 do12
  cases b2 with
  | false =>
   rw [if_neg Bool.false_ne_true]
   exact back2 kp2 g16 (q16.2 rfl)
  | true =>
   rw [if_pos rfl]
   have hkY := hk _ s16 σ15 H16 _ I16 (q16.1 rfl)
   rw [hx] at hkY
   refine thn hkY fun kv s17 ⟨kval, H17, I17, r17, q17⟩ => ?_
   have heY := he _ s17 σ15 H17 _ I17 q17
   rw [hx] at heY
   refine thn heY fun yv s18 ⟨y, H18, I18, r18, kk, ek, n18⟩ => ?_
   subst ek
   have G18 := Inv.grownD I18 g12.len v12 do12
   have e18 := (I18.pin (a, o12) (List.mem_append_right _ List.mem_cons_self)).1
   refine wpAny_dictSet_pairs (hsz := by rw [← Paired.length v12]; exact g12.len) (kV_key Y.prog Y.w r17) (do12.to e18) fun h6 d6 hs6 => ?_
   have I19 : Inv Y (PB ++ pinsAt fp s14.heap) σ15 H18 { s18 with heap := h6, toks := s18.toks + 1 } :=
    G18.inv.turned (t' := s18.toks + 1) (it := a) (fun b o hb e => hs6.extBut b o hb e) G18.no A.loc A.sz A.cell fun p hp z => by
     rw [A.pn, List.nil_append] at hp
     exact pn p hp z
   obtain ⟨o6, es6, ep6, e6, r6⟩ := id d6
   exact back2 kp2 ⟨I19, G18.no, by have := putK_len zs kk y; omega, o6, _, e6, KV.put r18 v12, d6⟩ n18
theorem comp_genD {X : Cx} {tg iter kx vx : Expr} {ifs : List Expr} {scope : Scope} {pos pos' : Pos} {wi : TI} {g : TG} {tt : TT} {tk te : TE} {N' : List Str} {cap : List (Option Nat)} {use : Option (Value → Sem Unit)} {Q' : Value → Shared → Prop}
  {pins : List (Addr × Obj)} {s : Shared} {σ : St} {H : Hp} {Q : KL → Hp → Prop}
  (hc : X.calm = true) (hi : PI X tg iter wi) (B : BlockScope X.env.scope X.N scope N' cap) (hg : ∀ s H ex C, PG (blockCx X N' scope s H ex C) tg g) (ht : ∀ s H ex C, PTs (blockCx X N' scope s H ex C) ifs tt)
  (hk : ∀ s H ex C, PE (blockCx X N' scope s H ex C) kx tk) (he : ∀ s H ex C, PE (blockCx X N' scope s H ex C) vx te)
  (hnm : ∀ itv v, letOwnedTupleGo tg itv v = pure ()) (hs : ∀ x, foldedSetIterable iter X.env x = pure x) (I : Inv X pins σ H s)
  (h : tCompD wi cap g tt tk te σ H Q)
  (fin : ∀ (acc C : Addr) (H : Hp) (ys : KL) (o : Obj) (s' : Shared), H acc = none → Inv X pins σ (upd H acc (.frz o (.dK ys))) s' → Left X pins C (upd H acc (.frz o (.dK ys))) s' → Q ys H → compPost (model X.prog X.w) X.A X.xe use Q' (.ref acc) C (.ok .next) s') :
  wpAny (model X.prog X.w) X.A (comprehension (.DictComp kx vx [⟨tg, iter, ifs, 0⟩] scope pos) scope X.env pos' newDict false (eval iter X.env) use) Q' X.xe s := by
 have hclos : closureFor scope X.env = pure (clo X.env.cells scope.names []) := closureFor_eq fun y hy hf => I.ok.has y.1 (B.free y hy hf)
 refine wpAny_comprehension_free (cl := clo X.env.cells scope.names []) rfl hs hclos B.kind B.names (thn (hi pins s σ H _ I h) fun v s1 h1 => thn h1 fun itv s2 h2 => ?_)
 obtain ⟨it, fp, tn, J, H2, e, I2, T, st2, f2, W, ⟨m0, w0⟩, turn⟩ := h2
 subst e
 refine wpAny_newObj_type (newBlock ?_)
 dsimp only
 generalize hH3 : s2.heap.push { cls := .type "dict", dict := none, data := .dict #[] } = h3
 have hsz3 : h3.objs.size = s2.heap.objs.size + 1 := by rw [← hH3]; exact Heap.size_push ..
 have hk3 : ∀ b o, s2.heap.get? b = some o → h3.get? b = some o := fun b o e => by rw [← hH3]; exact Heap.get?_push_of_some _ e
 have hacc3 : h3.get? s2.heap.objs.size = some { cls := .type "dict", data := .dict #[] } := by rw [← hH3]; exact Heap.get?_push_size _ rfl
 have hlt : ∀ b ∈ fp, b < s2.heap.objs.size := fun b hb => let ⟨o, e, _⟩ := T.obj _ _ st2 b hb; Heap.lt_size e
 have I4 := block_start I2 B f2 hlt hk3 (by rw [hsz3]; exact Nat.le_succ _)
 have acc4 : (pushCells (h3.push { cls := .type "dict", data := .dict #[] }) scope.names).get? s2.heap.objs.size = some { cls := .type "dict", data := .dict #[] } := pushCells_keeps _ _ _ _ (Heap.get?_push_of_some _ hacc3)
 have st4 : tn 0 (pushCells (h3.push { cls := .type "dict", data := .dict #[] }) scope.names) := T.keep _ _ _ st2 fun b _ o e => pushCells_keeps _ _ _ _ (Heap.get?_push_of_some _ (hk3 b o e))
 have dict4 : (pushCells (h3.push { cls := .type "dict", data := .dict #[] }) scope.names).DictOf (mixKind X.prog X.w) s2.heap.objs.size [] := Heap.DictOf.at (hH3 ▸ Heap.DictOf.new s2.heap) fun o e => pushCells_keeps _ _ _ _ (Heap.get?_push_of_some _ e)
 have haC : s2.heap.objs.size ≠ h3.objs.size := by rw [hsz3]; exact Nat.ne_of_lt (Nat.lt_succ_self _)
 have haN : s2.heap.objs.size ∉ frs X.stack := fun z => by
  rcases List.mem_cons.mp (I2.stkSub _ z) with q | q
  ·exact absurd I2.lt (by rw [← q]; exact Nat.lt_irrefl _)
  ·exact I2.nofs (Nat.le_refl _) q
 have okY := I4.ok
 have fpY : ∀ {pins' : List (Addr × Obj)} {H' : Hp}, (∀ b ∈ fp, H' b = none) → (∀ p ∈ pins', p.1 = s2.heap.objs.size) → ∀ b ∈ fp, FpOk (blockCx X N' scope s2 H2 fp h3.objs.size) pins' H' b := fun {pins' H'} hn hp b hb =>
  ⟨hn b hb, (okY.exf b hb).1, okY.exfs b hb, .inl hb, (okY.exf b hb).2, fun p z e => by
   have z' : p ∈ pins' := z
   have := hlt b hb
   rw [← e, hp p z'] at this
   exact Nat.lt_irrefl _ this⟩
 have cellNe : ∀ x c, (blockCx X N' scope s2 H2 fp h3.objs.size).env.cells.lookup x = some c → c ≠ s2.heap.objs.size := fun x c ec z => by
  rcases from_look scope.names (h3.objs.size + 1) _ ec with q' | q'
  ·rw [z, hsz3] at q'
   exact absurd q' (by omega)
  ·have ec' : X.env.cells.lookup x = some c := (clo_look _ _ q').elim id fun z => nomatch z
   obtain ⟨_, q''⟩ := I2.cell x c ec'
   have := q''.lt
   rw [z] at this
   exact Nat.lt_irrefl _ this
 have loop : ∀ s4 : Shared, s4 = { s2 with heap := pushCells (h3.push { cls := .type "dict", data := .dict #[] }) scope.names } →
   codeAny (model X.prog X.w) X.A (.compLoop (.DictComp kx vx [⟨tg, iter, ifs, 0⟩] scope pos) 0 (.ref it) (.ref s2.heap.objs.size) (blockEnv scope X.env h3.objs.size)) (compPost (model X.prog X.w) X.A X.xe use Q' (.ref s2.heap.objs.size) h3.objs.size) s4 := by
  rintro s4 rfl
  have A0 : AccOk (blockCx X N' scope s2 H2 fp h3.objs.size) s2.heap.objs.size := ⟨haC, haN, .inr (Nat.le_refl _), cellNe, rfl, hc⟩
  refine loop_okD (Y := blockCx X N' scope s2 H2 fp h3.objs.size) (PB := []) (W := W) A0 hnm (fun p hp => absurd hp (by simp)) rfl (hg _ _ _ _) (ht _ _ _ _) (hk _ _ _ _) (he _ _ _ _) T (fun b hb z => absurd (hlt b hb) (by rw [z]; exact Nat.lt_irrefl _))
   (fun {o H'} hn b hb => fpY hn (fun p hp => by rw [List.mem_singleton.mp hp]) b hb) st4 ⟨I4, I2.hok.fresh (Nat.le_refl _), Nat.zero_le _, _, [], acc4, .nil, dict4⟩ (fun b hb => (f2 b hb).1) w0 turn fun ys H5 s6 G q => ?_
  obtain ⟨o6, vs6, e6, v5, d6⟩ := G.at'
  have bigA : (s2.heap.objs.size == sysModules) = false := beq_eq_false_iff_ne.mpr (Ne.symm (Nat.ne_of_lt I2.big))
  have fa5 := G.no
  have z5 := G.len
  have I6 := G.inv
  have nacc : ∀ b u, H5 b = some u → b ≠ s2.heap.objs.size := fun b u q z => by rw [z, fa5] at q; cases q
  have un : Un (frs X.stack) fp H2 (upd H5 s2.heap.objs.size (.frz o6 (.dK ys))) s2.heap s6.heap := by
   have u := I6.base
   refine ⟨u.keep, u.slot, fun b o q n hx => ?_, u.there, fun b xs q => ?_, fun b o xs q => ?_, fun b ps q => ?_⟩
   ·rw [upd_ne (Nat.ne_of_lt (Heap.lt_size q))]
    exact u.free b o q n hx
   ·have z := u.tups b xs q
    rw [upd_ne (nacc b _ z)]; exact z
   ·have z := u.frzs b o xs q
    rw [upd_ne (nacc b _ z)]; exact z
   ·obtain ⟨more, z⟩ := u.tbls b ps q
    exact ⟨more, by rw [upd_ne (nacc b _ z)]; exact z⟩
  have hok : HOk X.prog X.w (upd H5 s2.heap.objs.size (.frz o6 (.dK ys))) s6.heap := fun b u q => by
   by_cases hb : b = s2.heap.objs.size
   ·subst hb
    rw [upd_same] at q; cases q
    exact ⟨e6, z5, bigA, vs6, v5, d6⟩
   ·rw [upd_ne hb] at q
    have o6 : ObjOk X.prog X.w H5 s6.heap b u := I6.hok b u q
    exact o6.stay (fun _ _ _ e => e) (fun c z => by rw [upd_ne (nacc c _ z)]; exact z) fun c xs z => by rw [upd_ne (nacc c _ z)]; exact z
  have IX : Inv X pins σ (upd H5 s2.heap.objs.size (.frz o6 (.dK ys))) s6 := I2.call' (show s6.os = s2.os from I6.os) un hok I6.bare fun b hb => let f := f2 b hb; ⟨f.2.2.2.1, f.2.1, f.2.2.2.2.1, f.2.2.2.2.2⟩
  have hCs : s2.heap.objs.size ≤ h3.objs.size := by rw [hsz3]; exact Nat.le_succ _
  refine fin _ _ H5 ys o6 s6 fa5 IX ⟨let ⟨m, hn, _⟩ := I6.loc; ⟨m, hn⟩, ?_, ?_, Nat.le_trans I2.sz hCs, fun x c ec z => ?_, fun p hp z => ?_⟩ q
  ·rw [upd_ne (Ne.symm haC)]; exact I6.free
  ·exact Nat.ne_of_gt (Nat.lt_of_lt_of_le I2.lt hCs)
  ·obtain ⟨_, q⟩ := I2.cell x c ec
   have := q.lt
   rw [z] at this
   exact absurd (Nat.lt_of_lt_of_le this hCs) (Nat.lt_irrefl _)
  ·have := Heap.lt_size (I2.pin p hp).1
   rw [z] at this
   exact absurd (Nat.lt_of_lt_of_le this hCs) (Nat.lt_irrefl _)
 exact codeAny_compStart_dict (loop _ rfl) (T.self _ 0 _ _ _ st4 (loop _ rfl))
def tCompDE (wi : TI) (cap : List (Option Nat)) (g : TG) (tt : TT) (tk te : TE) : TE := fun σ H Q => tCompD wi cap g tt tk te σ H fun ys H' => ∀ p o, H' p = none → Q (.ref p) (upd H' p (.frz o (.dK ys)))
theorem pe_dcomp {X : Cx} {tg iter kx vx : Expr} {ifs : List Expr} {scope : Scope} {pos : Pos} {wi : TI} {g : TG} {tt : TT} {tk te : TE} (N' : List Str) (cap : List (Option Nat))
  (hc : X.calm = true) (hi : PI X tg iter wi) (B : BlockScope X.env.scope X.N scope N' cap) (hg : ∀ s H ex C, PG (blockCx X N' scope s H ex C) tg g) (ht : ∀ s H ex C, PTs (blockCx X N' scope s H ex C) ifs tt) (hk : ∀ s H ex C, PE (blockCx X N' scope s H ex C) kx tk) (he : ∀ s H ex C, PE (blockCx X N' scope s H ex C) vx te)
  (hnm : ∀ itv v, letOwnedTupleGo tg itv v = pure () := by intro _ _; rfl) (hs : ∀ x, foldedSetIterable iter X.env x = pure x := by intro _; rfl) : PE X (.DictComp kx vx [⟨tg, iter, ifs, 0⟩] scope pos) (tCompDE wi cap g tt tk te) := by
 intro pins s σ H Q I h
 rw [arm_eval_DictComp]
 refine comp_genD (use := none) hc hi B hg ht hk he hnm hs I h fun acc C H ys o s' hn I' L q => ?_
 obtain ⟨m, hm⟩ := L.ns
 refine ⟨m, hm, fun h' hsb => ⟨.ref acc, _, I'.turned (t' := s'.toks) (it := C) (fun b o hb e => hsb.extBut b o hb e) L.free L.loc (.inr L.sz) L.cell L.pin, rfl, q acc o hn⟩⟩
end L2

end

section
namespace L2
open PySem PySem.Spec PyProof.Rows
section
variable {prog : Program} {w : World} {A : Around} {E : Value → Shared → Prop} {s : Shared}
theorem sub_rangeiter_reversed : isSubtype (.type "range_iterator") (.type "reversed") = pure false := by rw [isSubtype_type]; kernel_rfl
abbrev revRng (n : Int) : Obj := { cls := .type "range_iterator", data := .fields #[rawInt (n - 1), rawInt n, rawInt (-1)] }
theorem fits_long {z : Int} (h1 : -5000 ≤ z) (h2 : z ≤ 5000) : Builtin.Range.rangeFitsLong z = true := by
 unfold Builtin.Range.rangeFitsLong
 simp only [Bool.and_eq_true, decide_eq_true_eq]
 omega
theorem range_rev (r : Addr) (n : Int) (t u v : Tok) (h0 : 0 ≤ n) (h1 : n ≤ 1000) :
  Meets (Builtin.«range.__reversed__» ⟨[.ref r], []⟩) (fun _ R s => s.heap.get? r = some { cls := .type "range", dict := none, data := .fields #[.int 0 t, .int n u, .int 1 v], slots := #[] } ∧ R (.ok (.ret (Value.ref s.heap.objs.size))) { s with heap := s.heap.push (revRng n), toks := s.toks }) :=
 .of_wp fun prog w A R s h => by
  obtain ⟨hp, g, d, tk, os⟩ := s; obtain ⟨hl, h⟩ := h
  have hn : Builtin.Range.rangeSize 0 n 1 = n := by rw [rangeSize_one]; split <;> omega
  have hsm : (Builtin.Range.rangeFitsLong 0 && Builtin.Range.rangeFitsLong n && Builtin.Range.rangeFitsLong 1 && Builtin.Range.rangeFitsLong (-1) && Builtin.Range.rangeFitsLong (0 - 1) && Builtin.Range.rangeFitsLong (Builtin.Range.rangeSize 0 n 1)) = true := by
   rw [hn, fits_long (by omega) (by omega), fits_long (by omega) (by omega), fits_long (by omega) (by omega), fits_long (by omega) (by omega), fits_long (by omega) (by omega)]; rfl
  wp_walk
  rw [hsm, hn]
  have e : (0 : Int) + (n - 1) * 1 = n - 1 := by omega
  rw [e]
  simp only [Bool.not_true, Bool.false_eq_true, if_false, if_true]
  wp_walk
  exact ⟨_, rfl, h⟩
theorem code_reversed_rng {l : Addr} {n : Int} {t u v : Tok} {W : Value → Shared → Prop} (hl : IsRange s.heap l 0 n 1 t u v) (h0 : 0 ≤ n) (h1 : n ≤ 1000)
  (h : W (.ref s.heap.objs.size) { s with heap := s.heap.push (revRng n) }) : codeAny (model prog w) A (.call (.builtin "reversed.__new__") ⟨[.type "reversed", .ref l], []⟩) (wants W E) s := by
 have ty : s.TypeIs (.ref l) "range" := ⟨_, hl, rfl⟩
 refine codeAny_call_builtin F.plain_reversed_new F.entry_reversed_new (wpAny_of_eq (F.newCall_reversed_1 (.ref l)) ?_)
 have cls := newClass_reversed (.ref l)
 have look := F.slot_range_reversed.lookup
 have bound := F.slot_range_reversed.bind (.ref l)
 unfold Builtin.«reversed.__new__»
 wp_walk using wpAny_of_eq cls, wpAny_specialOf ty look, wpAny_of_eq bound
 refine codeAny_mono (codeAny_call_builtin (R := fun r s' => r = .ok (.ret (.ref s.heap.objs.size)) ∧ s' = { s with heap := s.heap.push (revRng n) }) F.slot_range_reversed.plain F.entry_range_reversed (F.slot_range_reversed.check _ _ _ _ _ _ _ _ ty (F.args_range_reversed_1 _) (range_rev l n t u v h0 h1 prog w A.in1 (fun r s' => r = .ok (.ret (.ref s.heap.objs.size)) ∧ s' = { s with heap := s.heap.push (revRng n) }) s ⟨hl, rfl, rfl⟩))) fun r s' hr => ?_
 obtain ⟨rfl, rfl⟩ := hr
 exact wpAny_pure h
theorem call_reversed_rng {l : Addr} {n : Int} {t u v : Tok} {Q : Value → Shared → Prop} (hl : IsRange s.heap l 0 n 1 t u v) (h0 : 0 ≤ n) (h1 : n ≤ 1000)
  (h : Q (.ref s.heap.objs.size) { s with heap := s.heap.push (revRng n) }) : wpAny (model prog w) A (call (.type "reversed") [.ref l]) Q E s := by
 refine callType_other (U := "range_iterator") (Q₁ := fun obj s₁ => obj = .ref s.heap.objs.size ∧ s₁ = { s with heap := s.heap.push (revRng n) }) (by decide +kernel) F.create_reversed ⟨_, _, F.mro_reversed⟩ F.made_reversed sub_rangeiter_reversed (F.typeCall_reversed_1 _) (code_reversed_rng hl h0 h1 ⟨rfl, rfl⟩) ?_
 rintro obj s₁ ⟨rfl, rfl⟩
 exact ⟨⟨_, Heap.get?_push_size _ rfl, rfl⟩, h⟩
end
section
variable {X : Cx} {tg : Expr}
def iRevRng (ta : TA) : TI := fun σ H R => ta σ H fun vs H1 => ∃ n : Int, vs = [.int n] ∧ 0 ≤ n ∧ n ≤ 1000 ∧ R (Itq (n - 1) (-1) n.toNat) H1
theorem pi_revRange {a : Expr} {ta : TA} {p pos p2 pos2 : Pos} (hg0 : Gl X "reversed") (hm0 : X.mg "reversed" = none) (hg : Gl X "range") (hm : X.mg "range" = none) (ha : PA X [a] ta)
  (hs0 : starEach [.Call (.Name "range" p2) [a] [] pos2] X.env = [(false, eval (.Call (.Name "range" p2) [a] [] pos2) X.env)] := by rfl) (hs : starEach [a] X.env = [(false, eval a X.env)] := by rfl) :
  PI X tg (.Call (.Name "reversed" p) [.Call (.Name "range" p2) [a] [] pos2] [] pos) (iRevRng ta) := by
 intro pins s σ H R I h
 refine Call_ (ld_blt I hg0 hm0 boot_reversed (PyProof.Rows.callWith_type1 (by
  rw [hs0]
  refine Calls.spliced_cons (Call_ (ld_blt I hg hm boot_range (PyProof.Rows.callWith_type1 (thn (ha pos2 pins s σ H _ I h) fun us s1 ⟨vs, H1, I1, r1, q1⟩ => ?_) hs rfl)))
  obtain ⟨n, e, h0, hn, q⟩ := q1
  subst e
  cases r1 with
  | cons r rr =>
   cases rr
   obtain ⟨t, rfl⟩ := r
   refine call_range_1 (Calls.spliced_nil ?_)
   refine call_reversed_rng (IsRange.new ..) h0 hn ?_
   dsimp only
   have hz1 : (s1.heap.push { cls := .type "range", data := .fields #[.int 0 s1.toks, .int n t, .int 1 (s1.toks + 1)] }).objs.size = s1.heap.objs.size + 1 := Heap.size_push ..
   have kk : ∀ b ob, s1.heap.get? b = some ob → ((s1.heap.push { cls := .type "range", data := .fields #[.int 0 s1.toks, .int n t, .int 1 (s1.toks + 1)] }).push (revRng n)).get? b = some ob := fun b ob q => Heap.get?_push_of_some _ (Heap.get?_push_of_some _ q)
   have hit : IsRangeIter ((s1.heap.push { cls := .type "range", data := .fields #[.int 0 s1.toks, .int n t, .int 1 (s1.toks + 1)] }).push (revRng n)) (s1.heap.objs.size + 1) (n - 1) n (-1) := by
    rw [← hz1]; exact Heap.get?_push_size _ rfl
   rw [hz1]
   generalize (s1.heap.push { cls := .type "range", data := .fields #[.int 0 s1.toks, .int n t, .int 1 (s1.toks + 1)] }).push (revRng n) = h2 at kk hit
   refine wpAny_pyIter_rangeiter hit ⟨s1.heap.objs.size + 1, [s1.heap.objs.size + 1], _, _, H1, rfl, I1.kept (t' := _) kk, turn_rangeS _ (n - 1) (-1) n.toNat, ?_, fun b hb => ?_, q⟩
   ·have e1 : (n - 1) + ((0 : Nat) : Int) * (-1) = n - 1 := by omega
    have e2 : ((n.toNat : Nat) : Int) - ((0 : Nat) : Int) = n := by omega
    rw [e1, e2]; exact hit
   ·rw [List.mem_singleton.mp hb]; exact I1.fpOk (Nat.le_succ _) (I1.hok.fresh (Nat.le_succ _))) hs0 rfl))
def cDictV (i : Int) (te : TE) : TE := fun σ H Q => te σ H fun y H1 => ∀ d o, H1 d = none → Q (.ref d) (upd H1 d (.frz o (.dK [(.inl i, y)])))
theorem Inv.trackN {pins : List (Addr × Obj)} {σ : St} {H : Hp} {s : Shared} {a : Addr} {h' : Heap} {tk : Nat} {u : HO} (I : Inv X pins σ H s) (hf : FpOk X pins H a)
  (k : ∀ b o, b ≠ a → s.heap.get? b = some o → h'.get? b = some o) (ha : ∃ o, h'.get? a = some o) (ok : ObjOk X.prog X.w (upd H a u) h' a u) : Inv X pins σ (upd H a u) { s with heap := h', toks := tk } := by
 have hfr : H a = none := hf.1
 have nT : ∀ b u, H b = some u → b ≠ a := fun b u e => ne_of_none e hfr
 refine I.step (g' := s.gens) (d' := s.drawn) (ch := [a]) (fun b hb => by rw [List.mem_singleton.mp hb]; exact ⟨hf.2.2.2.1, hf.2.1, hf.2.2.2.2.1, hf.2.2.2.2.2⟩) (fun b o _ _ hc e _ => k b o (fun z => hc (by rw [z]; simp)) e) (fun b o _ _ hc e _ => ⟨o.slots, k b o (fun z => hc (by rw [z]; simp)) e⟩)
  (fun b o hc e n => by rw [upd_ne (fun z => hc (by rw [z]; simp))]; exact n) (fun b o hc e => ⟨o, k b o (fun z => hc (by rw [z]; simp)) e⟩) (fun b xs e => by rw [upd_ne (nT b _ e)]; exact e) (fun b o xs e => by rw [upd_ne (nT b _ e)]; exact e) (fun b ps e => ⟨#[], by rw [upd_ne (nT b _ e), e]; simp⟩) (fun m hm => ?_) (fun b v e => ?_) I.bare
 ·obtain ⟨o, es, ep, ho, r⟩ := hm
  exact ⟨o, es, ep, k _ o (fun z => hf.2.1 z.symm) ho, r⟩
 ·by_cases hb : b = a
  ·subst hb
   rw [upd_same] at e; cases e
   exact ok
  ·rw [upd_ne hb] at e
   refine (I.hok b v e).stay (fun c v hc q => k c v ?_ q) (fun c q => by rw [upd_ne (nT c _ q)]; exact q) fun c xs q => by rw [upd_ne (nT c _ q)]; exact q
   rcases hc with z | z
   ·rw [z]; exact hb
   ·exact nT c _ z
theorem c_dictV {i : Int} {e : Expr} {te : TE} {pos p1 : Pos} {j1 : Nat} (he : PE X e te) : PE X (.Dict [some (.Constant (.int i) j1 p1)] [e] pos) (cDictV i te) := fun pins s σ H Q I h => by
 refine wpAny_Dict_walk (knd := mixKind X.prog X.w) rfl rfl (by simp) (by show 1 ≤ 15; decide) ?_
 refine pairTrees_cons_walk (wpAny_Constant_int ?_)
 dsimp only
 have hd0 : (s.heap.push { cls := .type "dict", data := .dict #[] }).get? s.heap.objs.size = some { cls := .type "dict", data := .dict #[] } := Heap.get?_push_size _ rfl
 have f0 : FpOk X pins H s.heap.objs.size := I.fpOk (Nat.le_refl _) (I.hok.fresh (Nat.le_refl _))
 have I0 : Inv X pins σ H { s with heap := s.heap.push { cls := .type "dict", data := .dict #[] }, toks := s.toks + 1 } := I.kept (t' := s.toks + 1) fun b o q => Heap.get?_push_of_some _ q
 have I0' : Inv X ((s.heap.objs.size, { cls := .type "dict", data := .dict #[] }) :: pins) σ H { s with heap := s.heap.push { cls := .type "dict", data := .dict #[] }, toks := s.toks + 1 } := I0.pins_of fun p hp => by
  rcases List.mem_cons.mp hp with rfl | hp
  ·exact ⟨hd0, f0.1, f0.2.1, f0.2.2.1, fun v z => by
    have z' : Data.dict #[] = Data.cell v := z
    cases z'⟩
  ·exact I0.pin p (List.mem_append_right _ hp)
 refine thn (he _ _ σ H _ I0' h) fun u s1 ⟨y, H1, I1, ry, q⟩ => pairTrees_nil_walk ?_
 have pn := I1.pin (s.heap.objs.size, { cls := .type "dict", data := .dict #[] }) (List.mem_append_right _ List.mem_cons_self)
 have I2 : Inv X pins σ H1 s1 := I1.pins_of fun p hp => I1.pin p (List.mem_append_right _ (List.mem_cons_of_mem _ hp))
 have f1 : FpOk X pins H1 s.heap.objs.size := ⟨pn.2.1, f0.2.1, f0.2.2.1, f0.2.2.2.1, f0.2.2.2.2.1, f0.2.2.2.2.2⟩
 have dn : s1.heap.DictOf (mixKind X.prog X.w) s.heap.objs.size [] := Heap.DictOf.at (Heap.DictOf.new s.heap) fun o eo => by rw [hd0] at eo; cases eo; exact pn.1
 refine ⟨[(.inl i, u)], ⟨mixKind_int _ _ _ _, rfl, trivial⟩, dn, fun h' hm hsb => ?_⟩
 obtain ⟨o, es, ep, eo, r⟩ := id hm
 exact ⟨.ref s.heap.objs.size, _, I2.trackN (u := .frz o (.dK [(.inl i, y)])) (tk := _) f1 (fun b ob hb q => hsb.extBut b ob hb q) ⟨o, eo⟩ ⟨eo, by show 1 ≤ sizeLine; decide, beq_eq_false_iff_ne.mpr (Ne.symm (Nat.ne_of_lt I.big)), _, .cons ⟨rfl, ry⟩ .nil, hm⟩, rfl, q _ _ pn.2.1⟩
end
def WalkD (J : It) (cap : List (Option Nat)) (g : TG) (tt : TT) (tk te : TE) (σ : St) (Q : KL → Hp → Prop) (H1 : Hp) : Prop :=
 ∃ W : Nat → Nat → KL → Hp → Prop, (∃ m, W 0 m [] H1) ∧ ∀ i m ys H, W i m ys H →
  (J.stop i H ∧ Q ys H) ∨
  (J.go i H ∧ ys.length < sizeLine ∧ ∃ N : KL → Hp → Prop, (∀ ys' H', N ys' H' → ∃ m', m' < m ∧ W (i + 1) m' ys' H') ∧ ∀ x H', J.yld i H x H' → g x (capOf cap σ) H' fun σ2 H2 => Keep (capOf cap σ) σ2 ∧ tt σ2 H2 fun b H3 =>
   br b (tk σ2 H3 fun k H4 => te σ2 H4 fun y H5 => ∃ kk, k = kV kk ∧ N (putK ys kk y) H5) (N ys H3))
theorem walk_nD {J : It} {cap : List (Option Nat)} {g : TG} {tt : TT} {tk te : TE} {σ : St} {Q : KL → Hp → Prop} {H : Hp} (n : Nat) (Pv : Nat → KL → Hp → Prop) (hn : n ≤ 100000) (h0 : Pv 0 [] H) (hz : ∀ i ys H, Pv i ys H → ys.length ≤ i)
  (hs : ∀ i ys H, i < n → Pv i ys H → J.go i H ∧ ∀ x H', J.yld i H x H' → g x (capOf cap σ) H' fun σ2 H2 => Keep (capOf cap σ) σ2 ∧ tt σ2 H2 fun b H3 => br b (tk σ2 H3 fun k H4 => te σ2 H4 fun y H5 => ∃ kk, k = kV kk ∧ Pv (i + 1) (putK ys kk y) H5) (Pv (i + 1) ys H3))
  (hd : ∀ ys H, Pv n ys H → J.stop n H ∧ Q ys H) : WalkD J cap g tt tk te σ Q H := by
 refine ⟨fun i m ys H => m = n - i ∧ i ≤ n ∧ Pv i ys H, ⟨n, by simp, Nat.zero_le _, h0⟩, ?_⟩
 rintro i m ys H ⟨rfl, hi, p⟩
 by_cases hlt : i < n
 ·obtain ⟨a, b⟩ := hs i ys H hlt p
  refine .inr ⟨a, ?_, Pv (i + 1), fun ys' H' p' => ⟨n - (i + 1), by omega, rfl, hlt, p'⟩, b⟩
  have := hz i ys H p
  have : (100000 : Nat) < sizeLine := by decide
  omega
 ·have e : i = n := by omega
  subst e
  exact .inl (hd ys H p)
theorem walk_tupD {K : PySem.W.Frag} {a : Addr} {xs : List V} {cap : List (Option Nat)} {g : TG} {tt : TT} {tk te : TE} {σ : St} {Q : KL → Hp → Prop} {H : Hp} (Pv : Nat → KL → Hp → Prop) (hn : xs.length ≤ 100000) (h0 : Pv 0 [] H) (hz : ∀ i ys H, Pv i ys H → ys.length ≤ i)
  (hl : ∀ i ys H, i ≤ xs.length → Pv i ys H → SqT K H a xs)
  (hs : ∀ i x ys H, xs[i]? = some x → Pv i ys H → g x (capOf cap σ) H fun σ2 H2 => Keep (capOf cap σ) σ2 ∧ tt σ2 H2 fun b H3 => br b (tk σ2 H3 fun k H4 => te σ2 H4 fun y H5 => ∃ kk, k = kV kk ∧ Pv (i + 1) (putK ys kk y) H5) (Pv (i + 1) ys H3))
  (hd : ∀ ys H, Pv xs.length ys H → Q ys H) : WalkD (Itt K a) cap g tt tk te σ Q H :=
 walk_nD xs.length Pv hn h0 hz (fun i ys H hi p => ⟨⟨xs, xs[i], hl i ys H (Nat.le_of_lt hi) p, by simp [hi]⟩, fun x H' ⟨e, y⟩ => by subst e; exact hs i x ys _ (y xs (hl i ys _ (Nat.le_of_lt hi) p)) p⟩)
  fun ys H p => ⟨⟨xs, hl _ ys H (Nat.le_refl _) p, Nat.le_refl _⟩, hd ys H p⟩
end L2

end

section
namespace L2
open PySem PySem.Spec PyProof.Rows SeqAt
def OrdAt (op : CmpOp) (A : Around) (s : Shared) (y x : Value) (b : Bool) : Prop :=
 ∀ (P : Program) (w : World) (E Q : Value → Shared → Prop), Q (.bool b) s → wpAny (model P w) A (richCompare op y x) Q E s
inductive Told (op : CmpOp) (A : Around) (s : Shared) (last : Bool) : List (Value × Value) → Bool → Prop
 | none : Told op A s last [] last
 | same {x y : Value} {ps : List (Value × Value)} {r : Bool} : EqAt A s x y true → Told op A s last ps r → Told op A s last ((x, y) :: ps) r
 | unlike {x y : Value} {ps : List (Value × Value)} {r : Bool} : EqAt A s x y false → OrdAt op A s x y r → Told op A s last ((x, y) :: ps) r
theorem OrdAt.gtI {A : Around} {s : Shared} (a b : Int) (t u : Tok) : OrdAt .Gt A s (.int a t) (.int b u) (decide (a > b)) := fun P w E Q h =>
 CmpOf.ints_gt (P := fun i v => v = if i = 0 then Value.int a t else Value.int b u) (fun i => if i = 0 then a else b) (fun i v e => by
  by_cases z : i = 0
  ·rw [if_pos z] at e ⊢; exact ⟨t, e⟩
  ·rw [if_neg z] at e ⊢; exact ⟨u, e⟩) 0 1 _ _ s Q E rfl rfl h
theorem tup_gt (l b : Addr) (xs ys : Array Value) (n m : Nat) (d1 d2 : Option Addr) (s1 s2 : Array (Option Value)) (r : Bool) :
  Meets (Builtin.«tuple.__gt__» ⟨[.ref l, .ref b], []⟩) (fun A R s => s.heap.get? l = some { cls := .type "tuple", dict := d1, data := .seq xs n, slots := s1 } ∧ s.heap.get? b = some { cls := .type "tuple", dict := d2, data := .seq ys m, slots := s2 } ∧ Told .Gt A.in1 s (decide (xs.size > ys.size)) (xs.toList.zip ys.toList) r ∧ R (.ok (.ret (.bool r))) s) :=
 .of_wp fun P w A R s hyp => by
  obtain ⟨hp, g, d, tk, os⟩ := s
  obtain ⟨hl, hb, told, fin⟩ := hyp
  have tt := AutoSeq1.sub_tuple_tuple
  wp_walk using AutoSeq1.wpAny_loadPart' hl, AutoSeq1.wpAny_loadPart' hb, wpAny_forIn_list _ (fun left st s' => st.1 = none ∧ s' = ⟨hp, g, d, tk, os⟩ ∧ Told .Gt A.in1 ⟨hp, g, d, tk, os⟩ (decide (xs.size > ys.size)) left r) _
  case turn =>
   rintro ⟨x, y⟩ left st s' ⟨_, rfl, told⟩
   cases told with
   | same e more =>
    refine wpAny_bind (e P w _ _ ?_)
    wp_walk
    exact ⟨rfl, rfl, more⟩
   | unlike e o =>
    refine wpAny_bind (e P w _ _ ?_)
    unfold OrdAt at o
    wp_walk using o P w _ _
    exact ⟨_, rfl, fin⟩
  case fin =>
   rintro ⟨st1, st2⟩ s' ⟨hs, rfl, told⟩
   replace hs : st1 = _ := hs
   subst hs
   cases told
   wp_walk
   exact ⟨_, rfl, fin⟩
  case h => exact ⟨rfl, rfl, told⟩
theorem OrdAt.gtT {A : Around} {s : Shared} {l b : Addr} {xs ys : Array Value} {r : Bool} (hl : IsTup s.heap l xs) (hb : IsTup s.heap b ys) (hu : A.units < cLine) (told : Told .Gt A.in1 s (decide (xs.size > ys.size)) (xs.toList.zip ys.toList) r) : OrdAt .Gt A s (.ref l) (.ref b) r := fun P w E Q h => by
 obtain ⟨⟨c1, d1, t1, s1⟩, o1, e1, n, f1⟩ := hl
 obtain ⟨⟨c2, d2, t2, s2⟩, o2, e2, m, f2⟩ := hb
 cases e1; cases f1; cases e2; cases f2
 exact richCompare_meets_room (op := .Gt) ⟨_, o1, rfl⟩ ⟨_, o2, rfl⟩ F.slot_tuple_gt F.entry_tuple_gt (F.args_tuple_gt_2 _ _) (tup_gt l b xs ys n m d1 d2 s1 s2 r) ⟨o1, o2, told, (fun z => nomatch z), h⟩ hu
end L2

end

section
namespace L2
open PySem PySem.Spec PyProof.Rows SeqAt
def better (bt : Value → Value → Bool) : Option Value → Value → Option Value
 | none, v => some v
 | some b, v => if bt v b then some v else some b
def stand : Option Value → Array Value
 | none => #[]
 | some b => #[b, b]
abbrev bestL (c : Array Value) (k : Nat) : Obj := { cls := .type "list", dict := none, data := .seq c k, slots := #[] }
def HeldBy (h0 h : Heap) : Prop := ∀ b o, h0.get? b = some o → h.get? b = some o
theorem stand_size (o : Option Value) : (stand o).size ≤ sizeLine := by cases o <;> (first | exact (show 0 ≤ sizeLine by decide) | exact (show 2 ≤ sizeLine by decide))
theorem better_ne {bt : Value → Value → Bool} {o : Option Value} {v : Value} : better bt o v ≠ none := by
 cases o with
 | none => intro z; cases z
 | some b =>
  show (if bt v b then some v else some b) ≠ none
  cases bt v b <;> (intro z; cases z)
theorem max_goes {P : Program} {w : World} {A : Around} {R : Result → Shared → Prop} {I S : Addr} {fp wr : List Addr} {vs : List Value} {St : Nat → Heap → Prop} {h0 : Heap} {bt : Value → Value → Bool}
  (W : Walks P w A.in1 I fp wr vs.length (fun i v => vs[i]? = some v) St) (nS : S ∉ fp) (oS : h0.get? S = none) (ow : ∀ b ∈ wr, h0.get? b = none)
  (cmp : ∀ x y s, x ∈ vs → y ∈ vs → HeldBy h0 s.heap → OrdAt .Gt A.in1 s x y (bt x y)) :
  ∀ (k j : Nat) (s : Shared) (old : Option Value) (c : Nat), vs.length - j = k → j ≤ vs.length → St j s.heap → HeldBy h0 s.heap → s.heap.get? S = some (bestL (stand old) c) → (∀ b, old = some b → b ∈ vs) → (old = none → j < vs.length) →
   (∀ v h tk, (vs.drop j).foldl (better bt) old = some v → (∀ b o, b ∉ wr → b ≠ S → s.heap.get? b = some o → h.get? b = some o) → R (.ok (.ret v)) { s with heap := h, toks := tk }) →
   codeAny (model P w) A (.builtin "max.loop" ⟨[.ref I, .none, .ref S], []⟩) R s := by
 have nw : S ∉ wr := fun z => nS (W.sub _ z)
 have again' : (toString "max" ++ toString ".loop" : String) = "max.loop" := by decide
 have apart : ∀ {b : Addr} {o : Obj}, h0.get? b = some o → b ∉ wr ∧ b ≠ S := fun {b o} e => ⟨fun z => (by rw [ow b z] at e; cases e), fun z => (by rw [z, oS] at e; cases e)⟩
 intro k
 induction k with
 | zero =>
  intro j s old c hk hj st held at' mem some' fin
  obtain rfl : j = vs.length := by omega
  cases old with
  | none => exact absurd (some' rfl) (Nat.lt_irrefl _)
  | some b =>
   refine codeAny_builtin F.entry_max_loop ?_
   rw [Around.under_plainId F.plain_max_loop _]
   show wpAny _ A.in1 (seqItems? (.ref S) >>= _) _ _ s
   refine wpAny_bind (wpAny_seqItems at' rfl ?_)
   show wpAny _ A.in1 (tryCatch (pyNext (.ref I)) _ >>= _) _ _ s
   refine wpAny_bind (wpAny_tryCatch (W.done s _ _ st fun h1 tk kept => ?_))
   show wpAny _ A.in1 (updateSeq S (fun _ => #[]) >>= _) _ _ _
   refine wpAny_bind (wpAny_updateSeq (hz := stand_size _) (kept S _ nw at') rfl (wpAny_bind (wpAny_letGo (wpAny_pure ?_))))
   exact fin b _ tk (by rw [List.drop_length]; rfl) fun a o ha hS e => (Heap.get?_update_other _ _ (Ne.symm hS)).trans (kept a o ha e)
 | succ k ih =>
  intro j s old c hk hj st held at' mem some' fin
  have lt : j < vs.length := by omega
  have dr : vs.drop j = vs[j] :: vs.drop (j + 1) := List.drop_eq_getElem_cons lt
  refine codeAny_builtin F.entry_max_loop ?_
  rw [Around.under_plainId F.plain_max_loop _]
  show wpAny _ A.in1 (seqItems? (.ref S) >>= _) _ _ s
  refine wpAny_bind (wpAny_seqItems at' rfl ?_)
  show wpAny _ A.in1 (tryCatch (pyNext (.ref I)) _ >>= _) _ _ s
  refine wpAny_bind (wpAny_tryCatch (W.item j s _ _ lt st fun v h1 tk got st1 kept => ?_))
  have ev : v = vs[j] := by rw [List.getElem?_eq_getElem lt] at got; exact (Option.some.inj got).symm
  have mv : v ∈ vs := by rw [ev]; exact List.getElem_mem lt
  have at1 := kept S _ nw at'
  have held1 : HeldBy h0 h1 := fun b o e => kept b o (apart e).1 (held b o e)
  have next : ∀ (h2 : Heap) (tk2 c2 : Nat), h2.get? S = some (bestL (stand (better bt old v)) c2) → (∀ b o, b ≠ S → h1.get? b = some o → h2.get? b = some o) →
    codeAny (model P w) A (.builtin "max.loop" ⟨[.ref I, .none, .ref S], []⟩) R { s with heap := h2, toks := tk2 } := fun h2 tk2 c2 at2 k2 => by
   refine ih (j + 1) { s with heap := h2, toks := tk2 } (better bt old v) c2 (by omega) lt (W.frame _ _ _ st1 fun b hb o e => k2 b o (fun z => nS (by rw [← z]; exact hb)) e) (fun b o e => k2 b o (apart e).2 (held1 b o e)) at2 (fun b e => ?_) (fun e => absurd e better_ne) fun u h3 tk3 e k3 => fin u h3 tk3 (by rw [dr, List.foldl_cons, ← ev]; exact e) fun b o hb hS q => k3 b o hb hS (k2 b o hS (kept b o hb q))
   cases old with
   | none => cases e; exact mv
   | some b0 =>
    have e' : (if bt v b0 then some v else some b0) = some b := e
    split at e'
    ·cases e'; exact mv
    ·cases e'; exact mem _ rfl
  cases old with
  | none =>
   show wpAny _ A.in1 (updateSeq S (fun _ => #[v, v]) >>= _) _ _ _
   refine wpAny_bind (wpAny_updateSeq (hz := stand_size _) at1 rfl ?_)
   rw [again']
   exact wpAny_pure ⟨plainId_quiet F.plain_max_loop _, next _ tk _ (Heap.get?_update_self _ at1 rfl) fun b o hb e => (Heap.get?_update_other _ _ (Ne.symm hb)).trans e⟩
  | some b =>
   show wpAny _ A.in1 (tryCatch (holding [v, v] (richCompare .Gt v b >>= _)) _ >>= _) _ _ _
   refine wpAny_bind (wpAny_tryCatch (wpAny_holding (wpAny_bind (cmp v b _ mv (mem b rfl) held1 P w _ _ ?_))))
   refine wpAny_bind (wpAny_holding (wpAny_truthy_bool (wpAny_bind (wpAny_letGo (wpAny_pure ?_)))))
   cases up : bt v b with
   | true =>
    have eb : better bt (some b) v = some v := (show (if bt v b then some v else some b) = _ from by rw [up]; rfl)
    rw [if_pos rfl]
    refine wpAny_bind (wpAny_updateSeq (hz := stand_size _) at1 rfl (wpAny_bind (wpAny_letGo ?_)))
    rw [again']
    exact wpAny_pure ⟨plainId_quiet F.plain_max_loop _, next _ tk _ (by rw [eb]; exact Heap.get?_update_self _ at1 rfl) fun b o hb e => (Heap.get?_update_other _ _ (Ne.symm hb)).trans e⟩
   | false =>
    have eb : better bt (some b) v = some b := (show (if bt v b then some v else some b) = _ from by rw [up]; rfl)
    rw [if_neg Bool.false_ne_true]
    refine wpAny_bind (wpAny_letGo ?_)
    rw [again']
    exact wpAny_pure ⟨plainId_quiet F.plain_max_loop _, next h1 tk c (by rw [eb]; exact at1) fun b o hb e => e⟩
theorem max_of {P : Program} {w : World} {A : Around} {E Q : Value → Shared → Prop} {s : Shared} {l : Addr} {vs : List Value} {bt : Value → Value → Bool} (hh : A.handled = none) (hl : s.heap.IsList l vs.toArray) (ne : vs ≠ [])
  (cmp : ∀ x y s', x ∈ vs → y ∈ vs → HeldBy s.heap s'.heap → OrdAt .Gt A.in1 s' x y (bt x y))
  (fin : ∀ v h tk, vs.foldl (better bt) none = some v → (∀ b o, s.heap.get? b = some o → h.get? b = some o) → Q v { s with heap := h, toks := tk }) : wpAny (model P w) A (call (.builtin "max") [.ref l]) Q E s := by
 have again' : (toString "max" ++ toString ".loop" : String) = "max.loop" := by decide
 refine call_function_tree F.kind_max F.plain_max F.entry_max (F.args_max1 _) ?_
 show wpAny _ A.in1 (Builtin.Builtins.bindParams "max" ["key", "default"] 0 ⟨[], []⟩ >>= _) _ _ s
 refine wpAny_bind (wpAny_of_eq (a := [none, none]) rfl (wpAny_bind (wpAny_pure (wpAny_bind ?_))))
 obtain ⟨ol, eol, _⟩ := id hl
 have lt := Heap.lt_size eol
 refine wpAny_pyIter_list hl (wpAny_bind (wpAny_newObj_type ?_))
 rw [again']
 dsimp only
 have z1 : (s.heap.push { cls := .type "list_iterator", data := .fields #[.ref l, .int 0 0] }).objs.size = s.heap.objs.size + 1 := Heap.size_push ..
 have new0 : ∀ a, s.heap.objs.size ≤ a → s.heap.get? a = none := fun a ha => by
  cases e : s.heap.get? a with
  | none => rfl
  | some o => exact absurd (Heap.lt_size e) (Nat.not_lt.mpr ha)
 have kk : ∀ b o, s.heap.get? b = some o → ((s.heap.push { cls := .type "list_iterator", data := .fields #[.ref l, .int 0 0] }).push (bestL #[] 0)).get? b = some o := fun b o e => Heap.get?_push_of_some _ (Heap.get?_push_of_some _ e)
 have sz : vs.toArray.size = vs.length := by simp
 have W := Walks.list (prog := P) (w := w) (A := A.in1) hh s.heap.objs.size l (Nat.ne_of_lt lt) vs.toArray
 have eP : (fun (i : Nat) (v : Value) => vs.toArray[i]? = some v) = (fun i v => vs[i]? = some v) := by funext i v; simp
 rw [sz, eP] at W
 rw [z1]
 refine wpAny_pure ⟨plainId_quiet F.plain_max_loop _, max_goes (h0 := s.heap) (bt := bt) (S := s.heap.objs.size + 1) W (fun z => by
  rcases List.mem_cons.mp z with z | z
  ·exact absurd z (Nat.succ_ne_self _)
  ·exact absurd (List.mem_singleton.mp z) (Nat.ne_of_gt (Nat.lt_succ_of_lt lt))) (new0 _ (Nat.le_succ _)) (fun b hb => by rw [List.mem_singleton.mp hb]; exact new0 _ (Nat.le_refl _)) cmp vs.length 0 _ none 0 rfl (Nat.zero_le _) ?_ kk (by rw [← z1]; exact Heap.get?_push_size _ rfl) (fun b e => nomatch e) (fun _ => List.length_pos_iff.mpr ne) fun v h tk e k2 => fin v h tk e fun b o q => k2 b o (fun z => by rw [List.mem_singleton.mp z, new0 _ (Nat.le_refl _)] at q; cases q) (fun z => by rw [z, new0 _ (Nat.le_succ _)] at q; cases q) (kk b o q)⟩
 exact ⟨⟨_, Heap.get?_push_of_some _ (Heap.get?_push_size _ rfl), rfl, rfl⟩, hl.at fun o e => kk _ o e⟩
end L2

end

section
namespace L2
open PySem PySem.Spec PyProof.Rows SeqAt
inductive Cmp : PyData → PyData → Prop
 | int (a b : Int) : Cmp (.int a) (.int b)
 | row (as bs : List Int) : Cmp (.tuple (as.map .int)) (.tuple (bs.map .int))
def ints0 : ∀ (as : List Int), PyData.canLayAll0 (as.map .int) = true ∧ PyData.hasDictAll (as.map .int) = false ∧ PyData.depthAll (as.map .int) = 0
 | [] => ⟨rfl, rfl, rfl⟩
 | a :: as => by
  obtain ⟨h1, h2, h3⟩ := ints0 as
  refine ⟨?_, ?_, ?_⟩
  ·show PyData.canLayAll0 (.int a :: as.map .int) = true
   unfold PyData.canLayAll0; rw [h1]; rfl
  ·show PyData.hasDictAll (.int a :: as.map .int) = false
   unfold PyData.hasDictAll; rw [h2]; rfl
  ·show PyData.depthAll (.int a :: as.map .int) = 0
   unfold PyData.depthAll; rw [h3]; rfl
theorem Cmp.left {d e : PyData} (h : Cmp d e) : d.canLay0 = true ∧ d.hasDict = false ∧ d.depth ≤ 1 := by
 cases h with
 | int a b => exact ⟨rfl, rfl, Nat.zero_le _⟩
 | row as bs =>
  obtain ⟨h1, h2, h3⟩ := ints0 as
  refine ⟨?_, ?_, ?_⟩
  ·unfold PyData.canLay0; exact h1
  ·unfold PyData.hasDict; exact h2
  ·unfold PyData.depth; rw [h3]; exact Nat.le_refl _
theorem Cmp.symm {d e : PyData} (h : Cmp d e) : Cmp e d := by
 cases h with
 | int a b => exact .int b a
 | row as bs => exact .row bs as
theorem readsAll_len {h : Heap} : ∀ {us : List Value} {ds : List PyData} {as : List Addr}, ReadsAll h us ds as → us.length = ds.length
 | _, _, _, .nil => rfl
 | _, _, _, .cons _ t => by rw [List.length_cons, List.length_cons, readsAll_len t]
theorem reads_tup {h : Heap} {u : Value} {ds : List PyData} {as : List Addr} (r : Reads h u (.tuple ds) as) : ∃ a vs, u = .ref a ∧ IsTup h a vs.toArray ∧ ReadsAll h vs ds as := by
 cases r with
 | tuple e c d ra => exact ⟨_, _, rfl, ⟨_, e, c, _, by rw [d]⟩, ra⟩
theorem better_bestOn {bt : Value → Value → Bool} {f : Value → Int} {S : Value → Prop} (h1 : ∀ x y, S x → S y → bt x y = true → f y ≤ f x) (h2 : ∀ x y, S x → S y → bt x y = false → f x ≤ f y) : ∀ (l : List Value) (b v : Value), S b → (∀ x ∈ l, S x) → l.foldl (better bt) (some b) = some v → (v = b ∨ v ∈ l) ∧ f b ≤ f v ∧ ∀ x ∈ l, f x ≤ f v
 | [], b, v, _, _, e => by cases e; exact ⟨.inl rfl, Int.le_refl _, fun x hx => nomatch hx⟩
 | y :: l, b, v, sb, sl, e => by
  rw [List.foldl_cons] at e
  have e' : l.foldl (better bt) (if bt y b then some y else some b) = some v := e
  have sy := sl y List.mem_cons_self
  have sl' : ∀ x ∈ l, S x := fun x hx => sl x (List.mem_cons_of_mem _ hx)
  cases c : bt y b with
  | true =>
   rw [c, if_pos rfl] at e'
   obtain ⟨m, a, q⟩ := better_bestOn h1 h2 l y v sy sl' e'
   refine ⟨.inr (m.elim (fun z => by rw [z]; exact List.mem_cons_self) fun z => List.mem_cons_of_mem _ z), Int.le_trans (h1 y b sy sb c) a, fun x hx => ?_⟩
   rcases List.mem_cons.mp hx with rfl | hx
   ·exact a
   ·exact q x hx
  | false =>
   rw [c, if_neg Bool.false_ne_true] at e'
   obtain ⟨m, a, q⟩ := better_bestOn h1 h2 l b v sb sl' e'
   refine ⟨m.elim .inl fun z => .inr (List.mem_cons_of_mem _ z), a, fun x hx => ?_⟩
   rcases List.mem_cons.mp hx with rfl | hx
   ·exact Int.le_trans (h2 x b sy sb c) a
   ·exact q x hx
def ordIG (last : Bool) : List Int → List Int → Bool
 | a :: as, b :: bs => if a = b then ordIG last as bs else decide (a > b)
 | _, _ => last
theorem toldIG {A : Around} {s : Shared} {last : Bool} : ∀ {as bs : List Int} {us ws : List Value} {x y : List Addr}, ReadsAll s.heap us (as.map .int) x → ReadsAll s.heap ws (bs.map .int) y → Told .Gt A s last (us.zip ws) (ordIG last as bs)
 | [], _, _, _, _, _, r, _ => by cases r; exact .none
 | _ :: _, [], _, _, _, _, r, q => by cases q; rw [List.zip_nil_right]; exact .none
 | a :: as, b :: bs, us, ws, x, y, r, q => by
  cases r with
  | cons r1 r2 =>
   cases q with
   | cons q1 q2 =>
    cases r1 with
    | int i t =>
     cases q1 with
     | int j u =>
      rw [List.zip_cons_cons]
      unfold ordIG
      split
      ·rename_i e
       subst e
       refine .same ?_ (toldIG r2 q2)
       have := EqAt.int_int (A := A) (s := s) a t a u
       simpa using this
      ·rename_i e
       refine .unlike ?_ (OrdAt.gtI a b t u)
       have := EqAt.int_int (A := A) (s := s) a t b u
       rw [show (a == b) = false from by simpa using e] at this
       exact this
def ordAG (d e : PyData) : Bool := match d, e with
 | .int a, .int b => decide (a > b)
 | .tuple xs, .tuple ys => ordIG (decide (xs.length > ys.length)) (xs.filterMap fun | .int i => some i | _ => none) (ys.filterMap fun | .int i => some i | _ => none)
 | _, _ => false
theorem ints_backG : ∀ (as : List Int), ((as.map PyData.int).filterMap fun | .int i => some i | _ => none) = as
 | [] => rfl
 | a :: as => by rw [List.map_cons, List.filterMap_cons]; simp only; rw [ints_backG as]
theorem ordAtG {A : Around} {s : Shared} {d e : PyData} {u v : Value} {x y : List Addr} (h : Cmp d e) (r : Reads s.heap u d x) (q : Reads s.heap v e y) (hu : A.units < cLine) : OrdAt .Gt A s u v (ordAG d e) := by
 cases h with
 | int a b =>
  cases r with
  | int i t =>
   cases q with
   | int j t' => exact OrdAt.gtI a b t t'
 | row as bs =>
  obtain ⟨a, us, rfl, hl, ra⟩ := reads_tup r
  obtain ⟨b, ws, rfl, hb, rb⟩ := reads_tup q
  have l1 : us.length = as.length := by have := readsAll_len ra; rw [List.length_map] at this; exact this
  have l2 : ws.length = bs.length := by have := readsAll_len rb; rw [List.length_map] at this; exact this
  refine OrdAt.gtT hl hb hu ?_
  have := toldIG (A := A.in1) (last := decide (us.length > ws.length)) ra rb
  unfold ordAG
  dsimp only
  rw [ints_backG, ints_backG, List.length_map, List.length_map, ← l1, ← l2]
  simpa using this
def ordLG (last : Bool) : List PyData → List PyData → Bool
 | d :: ds, e :: es => if PyData.eqv d e then ordLG last ds es else ordAG d e
 | _, _ => last
theorem toldLG {A : Around} {s : Shared} {last : Bool} (hu : A.units + 5 < cLine) : ∀ {ds es : List PyData} {us ws : List Value} {x y : List Addr}, Paired Cmp ds es → ReadsAll s.heap us ds x → ReadsAll s.heap ws es y → Told .Gt A s last (us.zip ws) (ordLG last ds es)
 | _, _, _, _, _, _, .nil, r, q => by cases r; exact .none
 | d :: ds, e :: es, us, ws, x, y, .cons c t, r, q => by
  cases r with
  | cons r1 r2 =>
   cases q with
   | cons q1 q2 =>
    rw [List.zip_cons_cons]
    obtain ⟨c1, c2, c3⟩ := c.left
    obtain ⟨e1, e2, e3⟩ := c.symm.left
    have eq := eqAt_reads d e A s _ _ _ _ r1 q1 c1 e1 (by omega)
    unfold ordLG
    cases z : PyData.eqv d e with
    | true => rw [z] at eq; exact .same eq (toldLG hu t r2 q2)
    | false => rw [z] at eq; exact .unlike eq (ordAtG c r1 q1 (by omega))
theorem call_maxR {X : Cx} {k : Nat} (hc : X.calm = true) (hr : Room k X.A) : CallR X (.builtin "max") (fun xs H Q => ∃ (p l : Addr) (fs : List (Int × List PyData)) (vs : List V), xs = [.ref l] ∧ H l = some (.lst vs) ∧ Reps p H (fs.map fun q => .tuple (.int q.1 :: q.2)) vs ∧ fs ≠ [] ∧ (∀ q ∈ fs, ∀ q' ∈ fs, Paired Cmp q.2 q'.2) ∧
  ∀ (i : Nat) q v, fs[i]? = some q → vs[i]? = some v → (∀ q' ∈ fs, q'.1 ≤ q.1) → Q v H) := by
 intro pins s σ H xs us Q I r h
 obtain ⟨p, l, fs, vs, rfl, hl, rs, ne, cm, q⟩ := h
 obtain ⟨u, rfl, ru⟩ := r.one
 cases ru
 obtain ⟨its, rv, pl, hz⟩ := I.list (SqL.of hl)
 have un := hr.un
 have lv := rv.length
 have lf := rs.len
 rw [List.length_map] at lf
 -- what each value reads
 have rd : ∀ (i : Nat) (x : Value), its[i]? = some x → ∃ q v as, fs[i]? = some q ∧ vs[i]? = some v ∧ RelV v x ∧ Reads s.heap x (.tuple (.int q.1 :: q.2)) as := fun i x hx => by
  have hi := (List.getElem?_eq_some_iff.mp hx).1
  have hf : fs[i]? = some fs[i] := List.getElem?_eq_getElem (by omega)
  obtain ⟨v, hv, rep⟩ := rs.get (i := i) (d := .tuple (.int (fs[i]).1 :: (fs[i]).2)) (by rw [List.getElem?_map, hf]; rfl)
  obtain ⟨x', hx', rx⟩ := rv.get hv
  rw [hx] at hx'; cases hx'
  have mem := List.getElem_mem (l := fs) (n := i) (by omega)
  have nd : (PyData.tuple (.int (fs[i]).1 :: (fs[i]).2)).hasDict = false := by
   have := cm _ mem _ mem
   generalize (fs[i]).2 = ds at this
   have all : ∀ {ds es : List PyData}, Paired Cmp ds es → PyData.hasDictAll ds = false := by
    intro ds es t
    induction t with
    | nil => rfl
    | cons c _ ih => unfold PyData.hasDictAll; rw [c.left.2.1, ih]; rfl
   unfold PyData.hasDict PyData.hasDictAll
   rw [all this]; rfl
  obtain ⟨as, rr⟩ := Rep.reads I _ v x nd rep rx
  exact ⟨_, v, as, hf, hv, rx, rr⟩
 have get : ∀ x ∈ its, ∃ q as, q ∈ fs ∧ Reads s.heap x (.tuple (.int q.1 :: q.2)) as := fun x hx => by
  obtain ⟨i, hi⟩ := List.getElem?_of_mem hx
  obtain ⟨q, v, as, hf, _, _, r⟩ := rd i x hi
  exact ⟨q, as, List.mem_of_getElem? hf, r⟩
 -- the first number of a value
 have first : ∀ x, ∃ n : Int, ∀ (q : Int) (ds : List PyData) (as : List Addr), Reads s.heap x (.tuple (.int q :: ds)) as → q = n := fun x => by
  by_cases z : ∃ (q : Int) (ds : List PyData) (as : List Addr), Reads s.heap x (.tuple (.int q :: ds)) as
  ·obtain ⟨q, ds, as, r⟩ := z
   refine ⟨q, fun q' ds' as' r' => ?_⟩
   obtain ⟨a, us, rfl, hl1, ra⟩ := reads_tup r
   obtain ⟨b, ws, e, hl2, rb⟩ := reads_tup r'
   cases e
   obtain ⟨o1, g1, c1, n1, d1⟩ := hl1
   obtain ⟨o2, g2, c2, n2, d2⟩ := hl2
   rw [g1] at g2; cases g2
   rw [d1] at d2
   have : us = ws := by injection d2 with d2 _; simpa using d2
   subst this
   cases ra with
   | cons a1 _ =>
    cases rb with
    | cons b1 _ => cases a1; cases b1; rfl
  ·exact ⟨0, fun q ds as r => absurd ⟨q, ds, as, r⟩ z⟩
 obtain ⟨f, hf⟩ := Classical.axiomOfChoice first
 have ex : ∀ z : Value × Value, ∃ b : Bool, (z.1 ∈ its → z.2 ∈ its → ∀ s' : Shared, HeldBy s.heap s'.heap → OrdAt .Gt X.A.in1 s' z.1 z.2 b) ∧ (b = true → z.1 ∈ its → z.2 ∈ its → f z.2 ≤ f z.1) ∧ (b = false → z.1 ∈ its → z.2 ∈ its → f z.1 ≤ f z.2) := fun z => by
  by_cases m1 : z.1 ∈ its
  ·by_cases m2 : z.2 ∈ its
   ·obtain ⟨q1, a1, k1, r1⟩ := get _ m1
    obtain ⟨q2, a2, k2, r2⟩ := get _ m2
    have e1 := hf z.1 q1.1 q1.2 a1 r1
    have e2 := hf z.2 q2.1 q2.2 a2 r2
    have pc : Paired Cmp (.int q1.1 :: q1.2) (.int q2.1 :: q2.2) := .cons (.int _ _) (cm q1 k1 q2 k2)
    refine ⟨ordLG (decide ((PyData.int q1.1 :: q1.2).length > (PyData.int q2.1 :: q2.2).length)) (.int q1.1 :: q1.2) (.int q2.1 :: q2.2), fun _ _ s' held => ?_, fun b _ _ => ?_, fun b _ _ => ?_⟩
    ·obtain ⟨c1, us, ez1, h1, ra⟩ := reads_tup (Reads.keeps held r1)
     obtain ⟨c2, ws, ez2, h2, rb⟩ := reads_tup (Reads.keeps held r2)
     rw [ez1, ez2]
     refine OrdAt.gtT h1 h2 (by simp only [Around.in1_units]; omega) ?_
     have l1 := readsAll_len ra
     have l2 := readsAll_len rb
     have := toldLG (A := X.A.in1.in1) (s := s') (last := decide ((PyData.int q1.1 :: q1.2).length > (PyData.int q2.1 :: q2.2).length)) (by simp only [Around.in1_units]; omega) pc ra rb
     rw [← l1, ← l2] at this ⊢
     simpa using this
    ·unfold ordLG at b
     by_cases z : q1.1 = q2.1
     ·omega
     ·rw [if_neg (by unfold PyData.eqv; simpa using z)] at b
      have b' : decide (q1.1 > q2.1) = true := b
      have := of_decide_eq_true b'
      omega
    ·unfold ordLG at b
     by_cases z : q1.1 = q2.1
     ·omega
     ·rw [if_neg (by unfold PyData.eqv; simpa using z)] at b
      have b' : decide (q1.1 > q2.1) = false := b
      have := of_decide_eq_false b'
      omega
   ·exact ⟨true, fun _ m => absurd m m2, fun _ _ m => absurd m m2, fun z => nomatch z⟩
  ·exact ⟨true, fun m => absurd m m1, fun _ m => absurd m m1, fun z => nomatch z⟩
 obtain ⟨bt, hbt⟩ := Classical.axiomOfChoice ex
 have nei : its ≠ [] := fun z => ne (List.eq_nil_of_length_eq_zero (by rw [z] at lv; have l0 : vs.length = 0 := lv; omega))
 refine max_of (bt := fun x y => bt (x, y)) (I.ok.hd hc) pl.isList nei (fun x y s' mx my held => (hbt (x, y)).1 mx my s' held) fun v h tk e kept => ?_
 obtain ⟨b0, rest, eits⟩ : ∃ b r, its = b :: r := by
  cases its with
  | nil => exact absurd rfl nei
  | cons b r => exact ⟨b, r, rfl⟩
 have e' : rest.foldl (better fun x y => bt (x, y)) (some b0) = some v := by rw [eits, List.foldl_cons] at e; exact e
 -- outside of the list the answers don't matter
 have best := better_bestOn (S := fun x => x ∈ its) (bt := fun x y => bt (x, y)) (f := f) (fun x y hx hy b => (hbt (x, y)).2.1 b hx hy) (fun x y hx hy b => (hbt (x, y)).2.2 b hx hy) rest b0 v (by rw [eits]; exact List.mem_cons_self) (fun x hx => by rw [eits]; exact List.mem_cons_of_mem _ hx) e'
 obtain ⟨mv, f0, fr⟩ := best
 have mv' : v ∈ its := by
  rw [eits]
  rcases mv with z | z
  ·rw [z]; exact List.mem_cons_self
  ·exact List.mem_cons_of_mem _ z
 have all : ∀ x ∈ its, f x ≤ f v := fun x hx => by
  rw [eits] at hx
  rcases List.mem_cons.mp hx with rfl | hx
  ·exact f0
  ·exact fr x hx
 obtain ⟨i, hi⟩ := List.getElem?_of_mem mv'
 obtain ⟨qq, vv, as, hfq, hvv, rx, rr⟩ := rd i v hi
 refine ⟨vv, H, I.kept kept, rx, q i qq vv hfq hvv fun q' hq' => ?_⟩
 obtain ⟨j, hj⟩ := List.getElem?_of_mem hq'
 have hj' := (List.getElem?_eq_some_iff.mp hj).1
 obtain ⟨q2, v2, as2, hf2, _, _, r2⟩ := rd j its[j] (List.getElem?_eq_getElem (by omega))
 rw [hj] at hf2; cases hf2
 have := all its[j] (List.getElem_mem _)
 rw [← hf v qq.1 qq.2 as rr, ← hf its[j] q'.1 q'.2 as2 r2] at this
 omega
end L2

end

section
namespace MF
open PySem PySem.Spec PyProof.Rows L2
def tailVal (T : TM) : Nat → List Int → Int
 | _, [] => 0
 | h, p :: r => floorAt T h p (r.headD 0) + tailVal T (h + 1) r
def Asked (T : TM) (ps : List Int) : Prop := ∀ x ∈ ps, x ∈ 0 :: T.co
structure OneTail (T : TM) (h : Nat) (x f : Int) (ps : List Int) : Prop where
 len : ps.length = T.ds.length - h
 val : f = tailVal T h ps
 hd : ps.headD 0 = x
 as : Asked T ps
 top : ∀ qs : List Int, qs.length = T.ds.length - h → Asked T qs → qs.headD 0 = x → tailVal T h qs ≤ f
def KeyAt (T : TM) (h : Nat) (x : Int) : Prop := if h = T.ds.length then x = 0 else x ∈ 0 :: T.co
structure HiFl (T : TM) (f : Int) (ps : List Int) : Prop where
 val : f = floorOf T ps
 len : ps.length = T.ds.length
 as : Asked T ps
 top : ∀ qs : List Int, qs.length = T.ds.length → Asked T qs → floorOf T qs ≤ f
abbrev tailD (f : Int) (ps : List Int) : PyData := .tuple [.int f, rowD ps]
structure TailsAt (p : Addr) (H : Hp) (T : TM) (h : Nat) (kvs : KL) : Prop where
 one : ∀ q ∈ kvs, ∃ x f ps, q.1 = .inl x ∧ Rep p H (tailD f ps) q.2 ∧ OneTail T h x f ps
 all : ∀ x, KeyAt T h x → ∃ q ∈ kvs, q.1 = .inl x
theorem TailsAt.same {p : Addr} {H H' : Hp} {T : TM} {h : Nat} {kvs : KL} (t : TailsAt p H T h kvs) (s : Same H H') : TailsAt p H' T h kvs :=
 ⟨fun q hq => by
  obtain ⟨x, f, ps, e, r, o⟩ := t.one q hq
  exact ⟨x, f, ps, e, Rep.ev (Ev.same s) _ _ r, o⟩, t.all⟩
theorem mem_putK {ks : KL} {k : Key} {v : V} {q : Key × V} (h : q ∈ putK ks k v) : q ∈ ks ∨ q = (k, v) := by
 unfold putK at h
 split at h
 ·obtain ⟨q0, h0, e⟩ := List.mem_map.mp h
  split at e
  ·rename_i z
   exact .inr (by rw [← e, z])
  ·exact .inl (by rw [← e]; exact h0)
 ·rcases List.mem_append.mp h with h | h
  ·exact .inl h
  ·exact .inr (List.mem_singleton.mp h)
theorem putK_has {ks : KL} {k : Key} {v : V} : ∃ q ∈ putK ks k v, q.1 = k := by
 unfold putK
 split
 ·rename_i z
  obtain ⟨q, hq, e⟩ := List.any_eq_true.mp z
  have e' : q.1 = k := of_decide_eq_true e
  exact ⟨_, List.mem_map.mpr ⟨q, hq, rfl⟩, by rw [if_pos e']; exact e'⟩
 ·exact ⟨(k, v), List.mem_append_right _ (List.mem_singleton.mpr rfl), rfl⟩
theorem putK_keeps {ks : KL} {k : Key} {v : V} {q : Key × V} (h : q ∈ ks) : ∃ q' ∈ putK ks k v, q'.1 = q.1 := by
 unfold putK
 split
 ·refine ⟨_, List.mem_map.mpr ⟨q, h, rfl⟩, ?_⟩
  split <;> rfl
 ·exact ⟨q, List.mem_append_left _ h, rfl⟩
theorem headD_key {T : TM} {h : Nat} {ps : List Int} (hl : ps.length = T.ds.length - h) (ha : Asked T ps) (hh : h ≤ T.ds.length) : KeyAt T h (ps.headD 0) := by
 unfold KeyAt
 split
 ·cases ps with
  | nil => rfl
  | cons a r => rw [List.length_cons] at hl; omega
 ·cases ps with
  | nil => rw [List.length_nil] at hl; omega
  | cons a r => exact ha a List.mem_cons_self
theorem tails_start {p : Addr} {H : Hp} {T : TM} {v : V} (r : Rep p H (tailD 0 []) v) : TailsAt p H T T.ds.length [(.inl 0, v)] := by
 refine ⟨fun q hq => ?_, fun x hx => ?_⟩
 ·rw [List.mem_singleton.mp hq]
  refine ⟨0, 0, [], rfl, r, by simp, rfl, rfl, fun _ h => (nomatch h), fun qs hl _ _ => ?_⟩
  cases qs with
  | nil => exact Int.le_refl _
  | cons a r => simp at hl
 ·unfold KeyAt at hx
  rw [if_pos rfl] at hx
  subst hx
  exact ⟨_, List.mem_singleton.mpr rfl, rfl⟩
theorem OneTail.step {p : Addr} {H : Hp} {T : TM} {n : Nat} {kvs : KL} (t : TailsAt p H T (n + 1) kvs) (hn : n < T.ds.length) {x b f : Int} {ps : List Int} (hx : x ∈ 0 :: T.co) (o : OneTail T (n + 1) b f ps)
  (top : ∀ b' f' ps', OneTail T (n + 1) b' f' ps' → (∃ q ∈ kvs, q.1 = .inl b' ∧ Rep p H (tailD f' ps') q.2) → floorAt T n x b' + f' ≤ floorAt T n x b + f) : OneTail T n x (floorAt T n x b + f) (x :: ps) := by
 refine ⟨by rw [List.length_cons, o.len]; omega, ?_, rfl, fun y hy => ?_, fun qs hl ha hh => ?_⟩
 ·show _ = floorAt T n x (ps.headD 0) + tailVal T (n + 1) ps
  rw [o.hd, o.val]
 ·rcases List.mem_cons.mp hy with rfl | hy
  ·exact hx
  ·exact o.as y hy
 ·cases qs with
  | nil => rw [List.length_nil] at hl; omega
  | cons a r =>
   have ea : a = x := hh
   subst ea
   have lr : r.length = T.ds.length - (n + 1) := by rw [List.length_cons] at hl; omega
   have ar : Asked T r := fun y hy => ha y (List.mem_cons_of_mem _ hy)
   obtain ⟨q, hq, eq⟩ := t.all _ (headD_key lr ar (by omega))
   obtain ⟨b', f', ps', e1, r1, o1⟩ := t.one q hq
   rw [eq] at e1
   have e1' : r.headD 0 = b' := by injection e1
   subst e1'
   have h1 := o1.top r lr ar rfl
   have h2 := top _ f' ps' o1 ⟨q, hq, eq, r1⟩
   show floorAt T n a (r.headD 0) + tailVal T (n + 1) r ≤ _
   omega
theorem range_shift {g : Nat → Int} : ∀ n, ((List.range (n + 1)).map g).sum = g 0 + ((List.range n).map fun i => g (i + 1)).sum := fun n => by
 rw [List.range_succ_eq_map, List.map_cons, List.sum_cons, List.map_map]; rfl
theorem headD_getD (r : List Int) : r.headD 0 = r.getD 0 0 := by cases r <;> rfl
theorem tailVal_sum {T : TM} : ∀ (ps : List Int) (h : Nat), tailVal T h ps = ((List.range ps.length).map fun i => floorAt T (h + i) (ps.getD i 0) (ps.getD (i + 1) 0)).sum
 | [], h => rfl
 | p :: r, h => by
  show floorAt T h p (r.headD 0) + tailVal T (h + 1) r = _
  rw [tailVal_sum r (h + 1), List.length_cons, range_shift, headD_getD]
  have e : (fun i => floorAt T (h + (i + 1)) ((p :: r).getD (i + 1) 0) ((p :: r).getD (i + 1 + 1) 0)) = (fun i => floorAt T (h + 1 + i) (r.getD i 0) (r.getD (i + 1) 0)) := by
   funext i
   rw [show h + (i + 1) = h + 1 + i by omega]; rfl
  rw [e]; rfl
theorem tailVal_floor {T : TM} (ps : List Int) : tailVal T 0 ps - ps.headD 0 * T.st = floorOf T ps := by
 rw [tailVal_sum, headD_getD]
 unfold floorOf floorsTo
 congr 3
 funext i
 rw [Nat.zero_add]
theorem hiFl_of {p : Addr} {H : Hp} {T : TM} {kvs : KL} (t : TailsAt p H T 0 kvs) {x f : Int} {ps : List Int} (o : OneTail T 0 x f ps) (top : ∀ x' f' ps', OneTail T 0 x' f' ps' → (∃ q ∈ kvs, q.1 = .inl x' ∧ Rep p H (tailD f' ps') q.2) → f' - x' * T.st ≤ f - x * T.st) : HiFl T (f - x * T.st) ps := by
 refine ⟨?_, by have := o.len; omega, o.as, fun qs hl ha => ?_⟩
 ·rw [← tailVal_floor, ← o.val, o.hd]
 ·obtain ⟨q, hq, eq⟩ := t.all _ (headD_key (h := 0) (by omega) ha (by omega))
  obtain ⟨x', f', ps', e1, r1, o1⟩ := t.one q hq
  rw [eq] at e1
  have e1' : qs.headD 0 = x' := by injection e1
  subst e1'
  have h1 := o1.top qs (by omega) ha rfl
  have h2 := top _ f' ps' o1 ⟨q, hq, eq, r1⟩
  rw [← tailVal_floor]
  omega
end MF
namespace MF
open PySem PySem.Spec PyProof.Rows L2
def RowOf (p : Addr) (H : Hp) (T : TM) (n : Nat) (g : Int → Int → Int) (hd : List Int → List Int) (q0 : Key × V) (fq : Int × List PyData) : Prop := ∃ b f ps, q0.1 = .inl b ∧ Rep p H (tailD f ps) q0.2 ∧ OneTail T n b f ps ∧ fq = (g b f, [rowD (hd ps)])
end MF

end

section
namespace MF
open PySem PySem.Spec PyProof.Rows L2
theorem mem_strAll {n f l : Nat} (h : f ≤ l) (hl : l < n) : (f, l) ∈ strAll n n := by
 unfold strAll
 refine List.mem_flatten.mpr ⟨strRow f (n - f), List.mem_map.mpr ⟨f, List.mem_range.mpr (by omega), rfl⟩, ?_⟩
 unfold strRow
 exact List.mem_map.mpr ⟨l - f, List.mem_range.mpr (by omega), by show (f, f + (l - f)) = (f, l); rw [show f + (l - f) = l by omega]⟩
theorem no_str {T : TM} : leastStr T = none ↔ ∀ f l, f ≤ l → l < T.ds.length → tooMuch T f l = false := by
 unfold leastStr
 rw [List.head?_eq_none_iff]
 unfold shownBy
 rw [List.filter_eq_nil_iff]
 constructor
 ·intro h f l hf hl
  have := h (f, l) (mem_strAll hf hl)
  simpa using this
 ·intro h q hq
  obtain ⟨h1, h2⟩ := strAll_in (Nat.le_refl _) q hq
  rw [h q.1 q.2 h1 h2]
  exact Bool.false_ne_true
theorem sum_le' : ∀ {xs ys : List Int}, xs.length = ys.length → (∀ i, xs.getD i 0 ≤ ys.getD i 0) → xs.sum ≤ ys.sum
 | [], [], _, _ => Int.le_refl _
 | [], _ :: _, h, _ => by simp at h
 | _ :: _, [], h, _ => by simp at h
 | x :: xs, y :: ys, h, g => by
  have h0 : x ≤ y := g 0
  have := sum_le' (xs := xs) (ys := ys) (by simpa using h) fun i => g (i + 1)
  rw [List.sum_cons, List.sum_cons]
  omega
theorem part_getD {α : Type} {xs : List α} {f l i : Nat} {d : α} : (part xs f l).getD i d = if i < l + 1 - f then xs.getD (f + i) d else d := by
 unfold part
 rw [List.getD_eq_getElem?_getD, List.getElem?_take]
 split
 ·rw [List.getElem?_drop, List.getD_eq_getElem?_getD]
 ·rfl
theorem part_le {xs ys : List Int} {f l : Nat} (h : xs.length = ys.length) (g : ∀ i, xs.getD i 0 ≤ ys.getD i 0) : (part xs f l).sum ≤ (part ys f l).sum := by
 refine sum_le' (by unfold part; rw [List.length_take, List.length_take, List.length_drop, List.length_drop, h]) fun i => ?_
 rw [part_getD, part_getD]
 split
 ·exact g _
 ·exact Int.le_refl _
theorem tooMuch_mono {T U : TM} {f l : Nat} (hd : T.ds.length = U.ds.length) (d : ∀ i, U.ds.getD i 0 ≤ T.ds.getD i 0) (hc : T.cs.length = U.cs.length) (c : ∀ i, (T.cs.getD i []).sum ≤ (U.cs.getD i []).sum) (s : T.st ≤ U.st) (h : T.hi ≤ U.hi) (lo : U.lo ≤ T.lo) (no : tooMuch T f l = false) : tooMuch U f l = false := by
 unfold tooMuch at no ⊢
 have no' := of_decide_eq_false no
 refine decide_eq_false fun z => no' ?_
 have h1 : drawnIn U f l ≤ drawnIn T f l := part_le hd.symm d
 have h2 : most T f l ≤ most U f l := by
  unfold most
  rw [← part_map, ← part_map]
  refine part_le (by rw [List.length_map, List.length_map, hc]) fun i => ?_
  have e : ∀ V : TM, (V.cs.map List.sum).getD i 0 = (V.cs.getD i []).sum := fun V => by
   rw [List.getD_eq_getElem?_getD, List.getElem?_map, List.getD_eq_getElem?_getD]
   cases V.cs[i]? <;> rfl
  rw [e, e]
  exact c i
 split at z <;> split <;> omega
theorem no_mono {T U : TM} (hd : T.ds.length = U.ds.length) (d : ∀ i, U.ds.getD i 0 ≤ T.ds.getD i 0) (hc : T.cs.length = U.cs.length) (c : ∀ i, (T.cs.getD i []).sum ≤ (U.cs.getD i []).sum) (s : T.st ≤ U.st) (h : T.hi ≤ U.hi) (lo : U.lo ≤ T.lo) (no : leastStr T = none) : leastStr U = none :=
 no_str.mpr fun f l hf hl => tooMuch_mono hd d hc c s h lo (no_str.mp no f l hf (by omega))
theorem there_main {P : PL} {S : SY} (ok : P.ok) (so : S.ok P.bs.length) {f : Nat} : ∀ k, f + k ≤ S.ex.length → mainAt P S (caps P S) (f + k) ≤ thereAt (terms P S) f k := fun k => by
 induction k with
 | zero =>
  intro _
  show mainAt P S (caps P S) (f + 0) ≤ (if f = 0 then P.st else P.hi)
  cases f with
  | zero => exact Int.le_refl _
  | succ f =>
   rw [if_neg (by omega)]
   show mainAt P S (caps P S) (f + 1) ≤ P.hi
   rw [mainAt_next]
   unfold blownOf
   split <;> omega
 | succ k ih =>
  intro hk
  have h1 := ih (by omega)
  have e : thereAt (terms P S) f (k + 1) = thereAt (terms P S) f k + made (caps P S) (f + k) - drawnAt P S (f + k) := rfl
  rw [e, show f + (k + 1) = f + k + 1 by omega, mainAt_next]
  unfold pmAt blownOf
  split <;> omega
theorem there_back {P : PL} {S : SY} : ∀ l, ∃ f, f ≤ l ∧ mainAt P S (caps P S) l = thereAt (terms P S) f (l - f) := fun l => by
 induction l with
 | zero => exact ⟨0, Nat.le_refl _, rfl⟩
 | succ l ih =>
  obtain ⟨f, hf, e⟩ := ih
  by_cases z : 0 > pmAt P S (caps P S) l - P.hi
  ·refine ⟨f, by omega, ?_⟩
   have e2 : thereAt (terms P S) f (l - f + 1) = thereAt (terms P S) f (l - f) + made (caps P S) (f + (l - f)) - drawnAt P S (f + (l - f)) := rfl
   rw [mainAt_next, show l + 1 - f = l - f + 1 by omega, e2, ← e, show f + (l - f) = l by omega]
   unfold blownOf
   rw [if_pos z]
   unfold pmAt
   omega
  ·refine ⟨l + 1, Nat.le_refl _, ?_⟩
   rw [Nat.sub_self]
   show _ = (if l + 1 = 0 then P.st else P.hi)
   rw [if_neg (by omega), mainAt_next]
   unfold blownOf
   rw [if_neg z]
   omega
theorem keeps_str {P : PL} {S : SY} (ok : P.ok) (so : S.ok P.bs.length) : (∀ i, i < S.ex.length → P.lo ≤ pmAt P S (caps P S) i) ↔ leastStr (terms P S) = none := by
 have tk := terms_ok (P := P) so
 have ld : (terms P S).ds.length = S.ex.length := draws_len
 rw [no_str]
 constructor
 ·intro h f l hf hl
  rw [ld] at hl
  rw [← short_eq tk hf (by rw [ld]; exact hl)]
  unfold shortAt
  refine decide_eq_false ?_
  have h1 := h l hl
  have h2 := there_main ok so (f := f) (l - f) (by omega)
  rw [show f + (l - f) = l by omega] at h2
  have e2 : thereAt (terms P S) f (l - f + 1) = thereAt (terms P S) f (l - f) + made (caps P S) (f + (l - f)) - drawnAt P S (f + (l - f)) := rfl
  rw [show l + 1 - f = l - f + 1 by omega, e2, show f + (l - f) = l by omega]
  unfold pmAt at h1
  show ¬ _ < P.lo
  omega
 ·intro h l hl
  obtain ⟨f, hf, e⟩ := there_back (P := P) (S := S) l
  have h1 := h f l hf (by rw [ld]; exact hl)
  rw [← short_eq tk hf (by rw [ld]; exact hl)] at h1
  unfold shortAt at h1
  have h2 := of_decide_eq_false h1
  have e2 : thereAt (terms P S) f (l - f + 1) = thereAt (terms P S) f (l - f) + made (caps P S) (f + (l - f)) - drawnAt P S (f + (l - f)) := rfl
  rw [show l + 1 - f = l - f + 1 by omega, e2, show f + (l - f) = l by omega, ← e] at h2
  unfold pmAt
  have : ¬ _ < P.lo := h2
  omega
end MF

end

section
namespace MF
open PySem PySem.Spec PyProof.Rows L2
def mx (a b : Int) : Int := if a < b then b else a
def lmF (T : TM) : Nat → Int
 | 0 => T.lo
 | j + 1 => mx T.lo (lmF T j + T.ds.getD (T.ds.length - 1 - j) 0 - (T.cs.getD (T.ds.length - 1 - j) []).sum)
def lz (T : TM) (j : Nat) : Int := lmF T (T.ds.length - j)
def leastMs (T : TM) : List Int := (List.range T.ds.length).map fun k => lz T (k + 1)
theorem lz_end {T : TM} : lz T T.ds.length = T.lo := by unfold lz; rw [Nat.sub_self]; rfl
theorem lz_next {T : TM} {j : Nat} (h : j < T.ds.length) : lz T j = mx T.lo (lz T (j + 1) + T.ds.getD j 0 - (T.cs.getD j []).sum) := by
 unfold lz
 rw [show T.ds.length - j = (T.ds.length - (j + 1)) + 1 from by omega]
 show mx T.lo _ = _
 rw [show T.ds.length - 1 - (T.ds.length - (j + 1)) = j from by omega]
theorem mx_l {a b : Int} : a ≤ mx a b := by unfold mx; split <;> omega
theorem mx_r {a b : Int} : b ≤ mx a b := by unfold mx; split <;> omega
theorem mx_le {a b c : Int} (h1 : a ≤ c) (h2 : b ≤ c) : mx a b ≤ c := by unfold mx; split <;> omega
theorem lz_lo {T : TM} : ∀ {j : Nat}, T.lo ≤ lz T j := by
 intro j
 unfold lz
 cases T.ds.length - j with
 | zero => exact Int.le_refl _
 | succ k => exact mx_l
theorem main_le {P : PL} {S : SY} {F : List (List Int)} {i : Nat} : mainAt P S F (i + 1) ≤ pmAt P S F i ∧ mainAt P S F (i + 1) ≤ P.hi := by
 rw [mainAt_next]; unfold blownOf; split <;> omega
theorem main_ge {P : PL} {S : SY} {F : List (List Int)} {i : Nat} {x : Int} (h1 : x ≤ pmAt P S F i) (h2 : x ≤ P.hi) : x ≤ mainAt P S F (i + 1) := by
 rw [mainAt_next]; unfold blownOf; split <;> omega
theorem lz_back {T : TM} {P : PL} {S : SY} {F : List (List Int)} {o : Nat} (ok : P.ok) (lo : P.lo = T.lo) (hd : ∀ i, o + i < T.ds.length → drawnAt P S i = T.ds.getD (o + i) 0) (hc : ∀ i, o + i < T.ds.length → made F i ≤ (T.cs.getD (o + i) []).sum)
  (up : ∀ i, o + i < T.ds.length → P.lo ≤ pmAt P S F i) : ∀ k i, o + i + k = T.ds.length → lz T (o + i) ≤ mainAt P S F i := by
 intro k
 induction k with
 | zero =>
  intro i e
  rw [show o + i = T.ds.length from by omega, lz_end, ← lo]
  exact (main_bd ok (fun j hj => up j (by omega))).1
 | succ k ih =>
  intro i e
  have h := ih (i + 1) (by omega)
  rw [lz_next (by omega)]
  have a1 := (main_bd (S := S) (F := F) ok (k := i) (fun j hj => up j (by omega))).1
  have a2 := (main_le (P := P) (S := S) (F := F) (i := i)).1
  have a3 : pmAt P S F i = mainAt P S F i + (made F i - drawnAt P S i) := rfl
  have a4 := hd i (by omega)
  have a5 := hc i (by omega)
  rw [show o + (i + 1) = o + i + 1 from rfl] at h
  exact mx_le (by omega) (by omega)
theorem lz_forw {T : TM} {P : PL} {S : SY} {F : List (List Int)} {o : Nat} (lo : P.lo = T.lo) (hd : ∀ i, o + i < T.ds.length → drawnAt P S i = T.ds.getD (o + i) 0) (hc : ∀ i, o + i < T.ds.length → made F i = (T.cs.getD (o + i) []).sum)
  (hi : ∀ j, j ≤ T.ds.length → o < j → lz T j ≤ P.hi) (st : lz T o ≤ P.st) : ∀ i, o + i ≤ T.ds.length → lz T (o + i) ≤ mainAt P S F i ∧ (o + i < T.ds.length → P.lo ≤ pmAt P S F i) := by
 have key : ∀ i, o + i < T.ds.length → lz T (o + i) ≤ mainAt P S F i → lz T (o + i + 1) ≤ pmAt P S F i := fun i h1 h2 => by
  rw [lz_next h1] at h2
  have a1 : lz T (o + i + 1) + T.ds.getD (o + i) 0 - (T.cs.getD (o + i) []).sum ≤ mainAt P S F i := Int.le_trans mx_r h2
  have a3 : pmAt P S F i = mainAt P S F i + (made F i - drawnAt P S i) := rfl
  have a4 := hd i h1
  have a5 := hc i h1
  omega
 have main : ∀ i, o + i ≤ T.ds.length → lz T (o + i) ≤ mainAt P S F i := by
  intro i
  induction i with
  | zero => intro _; exact st
  | succ i ih =>
   intro h
   have h1 := ih (by omega)
   exact main_ge (key i (by omega) h1) (hi _ h (by omega))
 intro i h
 refine ⟨main i h, fun h1 => ?_⟩
 have := key i h1 (main i h)
 have := lz_lo (T := T) (j := o + i + 1)
 omega
def behindP (P : PL) (m : Int) : PL := ⟨P.bs, [], P.lo, P.hi, m⟩
def behindF (h : Nat) (x : FT) : FT := ⟨x.b, x.out, mx 0 (x.f - h - 1), x.l - h - 1⟩
def behindS (P : PL) (S : SY) (h : Nat) : SY := ⟨(draws P S).drop (h + 1), (S.fs.filter fun x => decide ((h : Int) < x.l)).map (behindF h)⟩
theorem behind_words {b i : Int} {h : Nat} (i0 : 0 ≤ i) : ∀ fs : List FT, wordsOf ((fs.filter fun x => decide ((h : Int) < x.l)).map (behindF h)) b i = wordsOf fs b (h + 1 + i)
 | [] => rfl
 | x :: fs => by
  have ih := behind_words (b := b) (h := h) i0 fs
  unfold wordsOf at ih ⊢
  by_cases c : (h : Int) < x.l
  ·rw [List.filter_cons_of_pos (by exact decide_eq_true c), List.map_cons]
   have e : hitF b i (behindF h x) = hitF b (h + 1 + i) x := by
    unfold hitF behindF mx
    dsimp only
    congr 1
    ·congr 1
     rw [decide_eq_decide]
     split <;> omega
    ·rw [decide_eq_decide]; omega
   rw [List.filter_cons, List.filter_cons, e]
   cases hitF b (h + 1 + i) x with
   | true => simp only [if_true, List.map_cons]; rw [ih]; rfl
   | false => simp only [Bool.false_eq_true, if_false]; exact ih
  ·rw [List.filter_cons_of_neg (by simp; omega)]
   have e : hitF b (h + 1 + i) x = false := by
    unfold hitF
    rw [decide_eq_false (p := (h : Int) + 1 + i ≤ x.l) (by omega), Bool.and_false]
   rw [List.filter_cons_of_neg (by rw [e]; decide)]
   exact ih
theorem behind_caps {bs : List (Int × Int)} {i h : Nat} {fs : List FT} : capsIn bs ((fs.filter fun x => decide ((h : Int) < x.l)).map (behindF h)) i = capsIn bs fs ((h + 1 + i : Nat) : Int) := by
 unfold capsIn
 refine List.map_congr_left fun q _ => ?_
 rw [behind_words (by omega)]
 rw [show ((h + 1 + i : Nat) : Int) = (h : Int) + 1 + (i : Int) from by omega]
theorem behind_len {P : PL} {S : SY} {h : Nat} : (behindS P S h).ex.length = S.ex.length - (h + 1) := by
 show ((draws P S).drop (h + 1)).length = _
 rw [List.length_drop, draws_len]
theorem behind_cap {P : PL} {S : SY} {h i : Nat} {m : Int} (hi : h + 1 + i < S.ex.length) : (caps (behindP P m) (behindS P S h)).getD i [] = (terms P S).cs.getD (h + 1 + i) [] := by
 show _ = (caps P S).getD (h + 1 + i) []
 rw [List.getD_eq_getElem?_getD, caps_get (by rw [behind_len]; omega), List.getD_eq_getElem?_getD, caps_get hi]
 show capsIn P.bs (behindS P S h).fs i = _
 unfold behindS
 dsimp only
 rw [behind_caps]; rfl
theorem behind_draw {P : PL} {S : SY} {h i : Nat} {m : Int} (hi : h + 1 + i < S.ex.length) : drawnAt (behindP P m) (behindS P S h) i = (terms P S).ds.getD (h + 1 + i) 0 := by
 show _ = (draws P S).getD (h + 1 + i) 0
 have e : (behindS P S h).ex[i]? = some ((draws P S).getD (h + 1 + i) 0) := by
  show ((draws P S).drop (h + 1))[i]? = _
  rw [List.getElem?_drop, List.getD_eq_getElem?_getD, List.getElem?_eq_getElem (by rw [draws_len]; exact hi)]; rfl
 rw [drawnAt_of (draws_get e)]
 show _ + ([] : List Int).sum = _
 simp
theorem behindP_ok {P : PL} {m : Int} (ok : P.ok) (h1 : P.lo ≤ m) (h2 : m ≤ P.hi) : (behindP P m).ok := ⟨ok.b, ok.b1, ok.b4, fun q hq => (nomatch hq), Nat.zero_le _, ok.lo0, h1, h2, ok.h4⟩
theorem draws_pos {P : PL} {S : SY} {n : Nat} (ok : P.ok) (so : S.ok n) : ∀ x ∈ draws P S, 0 ≤ x := fun x hx => by
 unfold draws at hx
 obtain ⟨q, hq, rfl⟩ := List.mem_map.mp hx
 have h1 := (so.x q.1 (by
  obtain ⟨i, hi⟩ := List.mem_iff_getElem?.mp hq
  rw [List.getElem?_zipIdx] at hi
  cases z : S.ex[i]? with
  | none => rw [z] at hi; cases hi
  | some u => rw [z] at hi; cases hi; exact List.mem_of_getElem? z)).1
 have h2 : ∀ l : List (Int × Int × Int), (∀ e ∈ l, e ∈ P.es) → 0 ≤ (l.map fun e => drawn e q.2).sum := fun l => by
  induction l with
  | nil => intro _; exact Int.le_refl _
  | cons e l ih =>
   intro hl
   rw [List.map_cons, List.sum_cons]
   have a := ih fun z hz => hl z (List.mem_cons_of_mem _ hz)
   have b := (ok.e e (hl e List.mem_cons_self)).1
   have c : 0 ≤ drawn e q.2 := by unfold drawn; split <;> omega
   omega
 have := h2 P.es fun e he => he
 omega
theorem behindS_ok {P : PL} {S : SY} {h : Nat} (ok : P.ok) (so : S.ok P.bs.length) (hh : h + 1 < S.ex.length) (m : ∀ x ∈ (draws P S).drop (h + 1), x ≤ 20) : (behindS P S h).ok P.bs.length := by
 have x8 := so.x8
 have f4 := so.f4
 refine ⟨by rw [behind_len]; omega, by rw [behind_len]; omega, fun u hu => ⟨draws_pos ok so u (List.mem_of_mem_drop hu), m u hu⟩, ?_, fun x hx => ?_⟩
 ·show ((S.fs.filter fun x => decide ((h : Int) < x.l)).map (behindF h)).length ≤ 4
  rw [List.length_map]
  have := List.length_filter_le (fun x : FT => decide ((h : Int) < x.l)) S.fs
  omega
 ·obtain ⟨y, hy, rfl⟩ := List.mem_map.mp hx
  obtain ⟨hy, c⟩ := List.mem_filter.mp hy
  have c := of_decide_eq_true c
  have f := so.f y hy
  have a1 := f.b0
  have a2 := f.bn
  have a3 := f.f0
  have a4 := f.fl
  have a5 := f.lh
  refine ⟨a1, a2, mx_l, ?_, ?_⟩
  ·show mx 0 (y.f - h - 1) ≤ y.l - h - 1
   exact mx_le (by omega) (by omega)
  ·show y.l - h - 1 < _
   rw [behind_len]; omega
theorem behind_keeps {P : PL} {S : SY} {h : Nat} {m : Int} (ok : P.ok) (so : S.ok P.bs.length) (hh : h + 1 < S.ex.length) (d20 : ∀ x ∈ (draws P S).drop (h + 1), x ≤ 20) (h1 : P.lo ≤ m) (h2 : m ≤ P.hi)
  (le : ∀ j, j ≤ S.ex.length → h + 1 < j → lz (terms P S) j ≤ P.hi) : leastStr (terms (behindP P m) (behindS P S h)) = none ↔ lz (terms P S) (h + 1) ≤ m := by
 have lds : (terms P S).ds.length = S.ex.length := draws_len
 have okb := behindP_ok ok h1 h2
 have sob : (behindS P S h).ok (behindP P m).bs.length := behindS_ok ok so hh d20
 have mk : ∀ i, h + 1 + i < (terms P S).ds.length → made (caps (behindP P m) (behindS P S h)) i = ((terms P S).cs.getD (h + 1 + i) []).sum := fun i hi => by
  unfold made; rw [behind_cap (by rw [← lds]; exact hi)]
 have dk : ∀ i, h + 1 + i < (terms P S).ds.length → drawnAt (behindP P m) (behindS P S h) i = (terms P S).ds.getD (h + 1 + i) 0 := fun i hi => behind_draw (by rw [← lds]; exact hi)
 rw [← keeps_str okb sob]
 constructor
 ·intro up
  exact lz_back (T := terms P S) (o := h + 1) okb rfl dk (fun i hi => Int.le_of_eq (mk i hi)) (fun i hi => up i (by rw [behind_len]; omega)) (S.ex.length - (h + 1)) 0 (by omega)
 ·intro st i hi
  rw [behind_len] at hi
  exact (lz_forw (T := terms P S) (P := behindP P m) (S := behindS P S h) (F := caps (behindP P m) (behindS P S h)) (o := h + 1) rfl dk mk (fun j h3 h4 => le j (by omega) h4) st i (by omega)).2 (by omega)
theorem keeps_lz {P : PL} {S : SY} {F : List (List Int)} (ok : P.ok) (mc : ∀ i, made F i ≤ made (caps P S) i) (up : ∀ i, i < S.ex.length → P.lo ≤ pmAt P S F i) {i : Nat} (hi : i ≤ S.ex.length) : lz (terms P S) i ≤ mainAt P S F i := by
 have lds : (terms P S).ds.length = S.ex.length := draws_len
 have := lz_back (T := terms P S) (P := P) (S := S) (F := F) (o := 0) ok rfl (fun i _ => by rw [Nat.zero_add]; rfl) (fun i _ => by rw [Nat.zero_add]; exact mc i) (fun i h => up i (by omega)) (S.ex.length - i) i (by omega)
 rw [Nat.zero_add] at this
 exact this
theorem got_atL {r : List Int} {b : Nat} (h : b < r.length) : r[b]? = some (r.getD b 0) := by rw [List.getD_eq_getElem?_getD, List.getElem?_eq_getElem h]; rfl
theorem getD_outL {l : List Int} {k : Nat} (h : l.length ≤ k) : l.getD k 0 = 0 := by rw [List.getD_eq_getElem?_getD, List.getElem?_eq_none h]; rfl
theorem fok_made {P : PL} {S : SY} {F : List (List Int)} (fo : FOk P S F) (j : Nat) : made F j ≤ made (caps P S) j := by
 unfold made
 by_cases hj : j < S.ex.length
 ·have hF : F[j]? = some (F.getD j []) := by rw [List.getD_eq_getElem?_getD, List.getElem?_eq_getElem (by rw [fo.len]; exact hj)]; rfl
  have eC : (caps P S).getD j [] = capsIn P.bs S.fs j := by rw [List.getD_eq_getElem?_getD, caps_get hj]; rfl
  have l1 := fo.row j _ hF
  have l2 : (capsIn P.bs S.fs j).length = P.bs.length := capsIn_len
  rw [eC]
  refine sum_le' (by rw [l1, l2]) fun b => ?_
  by_cases hb : b < P.bs.length
  ·exact (fo.bd j _ b _ _ hF (got_atL (by rw [l1]; exact hb)) (got_atL (by rw [l2]; exact hb))).2
  ·rw [getD_outL (by omega), getD_outL (by omega)]; exact Int.le_refl _
 ·have e1 : F.getD j [] = [] := by rw [List.getD_eq_getElem?_getD, List.getElem?_eq_none (by rw [fo.len]; omega)]; rfl
  have e2 : (caps P S).getD j [] = [] := by rw [List.getD_eq_getElem?_getD, List.getElem?_eq_none (by rw [caps_len]; omega)]; rfl
  rw [e1, e2]; exact Int.le_refl _
theorem lz_hi {P : PL} {S : SY} (ok : P.ok) (so : S.ok P.bs.length) (no : leastStr (terms P S) = none) {j : Nat} (hj : j ≤ S.ex.length) : lz (terms P S) j ≤ P.hi := by
 have up := (keeps_str ok so).mpr no
 have h := keeps_lz (F := caps P S) ok (fun _ => Int.le_refl _) up hj
 have := (main_bd ok (k := j) (fun i hi => up i (by omega))).2
 omega
def fullerP (P : PL) (m : Int) : PL := ⟨P.bs, P.es, P.lo, P.hi, m⟩
theorem fuller_no {P : PL} {S : SY} {m : Int} (h : P.st ≤ m) (no : leastStr (terms P S) = none) : leastStr (terms (fullerP P m) S) = none :=
 no_mono (T := terms P S) (U := terms (fullerP P m) S) rfl (fun _ => Int.le_refl _) rfl (fun _ => Int.le_refl _) h (Int.le_refl _) (Int.le_refl _) no
end MF

end

section
namespace L2
open PySem PySem.Spec PyProof.Rows
theorem zip_no_len : typeLookup (.type "zip") "__len__" = pure none := by rw [typeLookup_type, builtinLookup_eq_fast]; kernel_rfl
theorem zip_no_hint : typeLookup (.type "zip") "__length_hint__" = pure none := by rw [typeLookup_type, builtinLookup_eq_fast]; kernel_rfl
def Zd (H : Hp) (Ts : List Addr) (xs ys : List V) : Prop := ∀ (j : Nat) (T : Addr) (x y : V), Ts[j]? = some T → xs[j]? = some x → ys[j]? = some y → H T = some (.tup [x, y])
structure LzS {X : Cx} (S1 S2 : SeqK X.prog X.w X.K) (pins : List (Addr × Obj)) (σ : St) (z TI TO i1 i2 l1 l2 S : Addr) (xs ys : List V) (i : Nat) (s : Shared) (H : Hp) (Ts : List Addr) (c : Nat) : Prop where
 I : Inv X pins σ H s
 fp : ∀ b ∈ [z, TI, TO, i1, i2, S], FpOk X pins H b
 z : ZipAny s.heap z TI TO
 ti : IsT2 s.heap TI (.ref i1) (.ref i2)
 to : ∃ a b, IsT2 s.heap TO a b
 i1 : S1.It s.heap i1 l1 i
 i2 : S2.It s.heap i2 l2 i
 s1 : S1.Sq H l1 xs
 s2 : S2.Sq H l2 ys
 l : s.heap.get? S = some { cls := .type "list", dict := none, data := .seq (Ts.map Value.ref).toArray c, slots := #[] }
 n : Ts.length = i
 zd : Zd H Ts xs ys
theorem lz_loop {X : Cx} {S1 S2 : SeqK X.prog X.w X.K} {A : Around} {pins : List (Addr × Obj)} {σ : St} {R : Result → Shared → Prop} {z TI TO i1 i2 l1 l2 S : Addr} {xs ys : List V} {res : Value} (hh : A.handled = none) (D : ZA2 z TI TO i1 i2 l1 l2)
  (hS : S ∉ [z, TI, TO, i1, i2]) (k1 : ∀ H H' : Hp, Same H H' → S1.Sq H l1 xs → S1.Sq H' l1 xs) (k2 : ∀ H H' : Hp, Same H H' → S2.Sq H l2 ys → S2.Sq H' l2 ys) (hl : xs.length ≤ ys.length) (hn : xs.length ≤ 1000) :
  ∀ (k i : Nat) (s : Shared) (H : Hp) (Ts : List Addr) (c : Nat), xs.length - i = k → i ≤ xs.length → LzS S1 S2 pins σ z TI TO i1 i2 l1 l2 S xs ys i s H Ts c →
   (∀ s' H' Ts' c', Inv X pins σ H' s' → Same H H' → FpOk X pins H' S → s'.heap.get? S = some { cls := .type "list", dict := none, data := .seq (Ts'.map Value.ref).toArray c', slots := #[] } → Ts'.length = xs.length → Zd H' Ts' xs ys → R (.ok (.ret res)) s') →
   codeAny (model X.prog X.w) A (.builtin "list.extend.loop" ⟨[.ref S, .ref z, res], []⟩) R s := by
 intro k
 induction k with
 | zero =>
  intro i s H Ts c hk hi L fin
  obtain ⟨a, b, hTO⟩ := L.to
  obtain ⟨its1, rv1, is1, hz1⟩ := S1.get rfl L.I L.s1
  obtain ⟨its2, rv2, is2, hz2⟩ := S2.get rfl L.I L.s2
  have e1 := rv1.length
  have hT : s.TypeIs (.ref z) "zip" := by obtain ⟨f0, f1, hz, _⟩ := L.z; exact ⟨_, hz, rfl⟩
  refine codeAny_builtin F.entry_extend_loop ?_
  rw [Around.under_plainId F.plain_extend_loop _]
  show wpAny _ A.in1 (pyNext (.ref z) >>= _) _ _ s
  refine wpAny_bind ?_
  unfold pyNext
  refine wpAny_bind (wpAny_attempt (wpAny_callSpecial?_slot (name := Str.ofString "__next__") hT F.slot_zip_next (wpAny_call_entry F.slot_zip_next hT F.entry_zip_next
   (zipF_end2_1 S1 S2 hh D L.z L.ti hTO ⟨L.i1, is1⟩ ⟨L.i2, is2⟩ (by simp; omega) fun h' tk e hk' he => ?_) (F.args_zip_next_1 _))))
  obtain ⟨o, ho, hco⟩ := he
  refine wpAny_bind (wpAny_isInstance (T := "StopIteration") (b := true) ⟨o, ho, hco⟩ isSubtype_stop ?_)
  refine wpAny_pure (wpAny_pure ?_)
  have hS' := hS
  simp only [List.mem_cons, List.not_mem_nil, or_false, not_or] at hS'
  refine fin _ H Ts c (L.I.ended (wr := [z, TI, TO, i1, i2]) (tk := tk) (fun b hb => L.fp b (by simp only [List.mem_cons, List.not_mem_nil, or_false] at hb ⊢; rcases hb with e | e | e | e | e <;> simp [e])) fun b o hb q => hk' b o (fun e => hb (by simp [e])) (fun e => hb (by simp [e])) (fun e => hb (by simp [e])) (fun e => hb (by simp [e])) q) (Same.refl _) (L.fp S (by simp)) (hk' S _ hS'.1 hS'.2.2.1 hS'.2.2.2.1 hS'.2.2.2.2 L.l) (by have := L.n; omega) L.zd
 | succ k ih =>
  intro i s H Ts c hk hi L fin
  have hlt : i < xs.length := by omega
  obtain ⟨a, b, hTO⟩ := L.to
  obtain ⟨its1, rv1, is1, hz1⟩ := S1.get rfl L.I L.s1
  obtain ⟨its2, rv2, is2, hz2⟩ := S2.get rfl L.I L.s2
  have hx : xs[i]? = some xs[i] := by simp [hlt]
  have hy : ys[i]? = some (ys[i]'(by omega)) := by rw [List.getElem?_eq_getElem (by omega)]
  obtain ⟨u1, hu1, ru1⟩ := rv1.get hx
  obtain ⟨u2, hu2, ru2⟩ := rv2.get hy
  have hT : s.TypeIs (.ref z) "zip" := by obtain ⟨f0, f1, hz, _⟩ := L.z; exact ⟨_, hz, rfl⟩
  refine codeAny_builtin F.entry_extend_loop ?_
  rw [Around.under_plainId F.plain_extend_loop _]
  show wpAny _ A.in1 (pyNext (.ref z) >>= _) _ _ s
  refine wpAny_bind ?_
  unfold pyNext
  refine wpAny_bind (wpAny_attempt (wpAny_callSpecial?_slot (name := Str.ofString "__next__") hT F.slot_zip_next (wpAny_call_entry F.slot_zip_next hT F.entry_zip_next
   (zipF_item2 S1 S2 (x1 := u1) (x2 := u2) hh D L.z L.ti hTO ⟨L.i1, is1⟩ ⟨L.i2, is2⟩ (by simpa using hu1) (by simpa using hu2) fun h' tk hz' _ a2 a3 a4 a5 a6 hk' => wpAny_pure ?_) (F.args_zip_next_1 _))))
  have hS' := hS
  simp only [List.mem_cons, List.not_mem_nil, or_false, not_or] at hS'
  have fp5 : ∀ b ∈ [z, TI, TO, i1, i2], FpOk X pins H b := fun b hb => L.fp b (by simp only [List.mem_cons, List.not_mem_nil, or_false] at hb ⊢; rcases hb with e | e | e | e | e <;> simp [e])
  have hSl := hk' S _ hS'.1 hS'.2.2.1 hS'.2.2.2.1 hS'.2.2.2.2 L.l
  have kk : ∀ b o, b ∉ [z, TI, TO, i1, i2] → s.heap.get? b = some o → h'.get? b = some o := fun b o hb q => hk' b o (fun e => hb (by simp [e])) (fun e => hb (by simp [e])) (fun e => hb (by simp [e])) (fun e => hb (by simp [e])) q
  have ht : IsTup h' s.heap.objs.size [u1, u2].toArray := ⟨_, a5, rfl, _, rfl⟩
  have kk' : IsT2 s.heap TI (.ref i1) (.ref i2) → IsT2 h' TI (.ref i1) (.ref i2) := fun q => hk' _ _ D.TI_z D.TO_TI.symm D.i1_TI.symm D.i2_TI.symm q
  have hTn : H s.heap.objs.size = none := L.I.hok.fresh (Nat.le_refl _)
  have I1 : Inv X pins σ (upd H s.heap.objs.size (.tup [xs[i], ys[i]'(by omega)])) { s with heap := h', toks := tk } := L.I.yielded (tk := tk) fp5 kk (Nat.le_refl _) ht (.cons ru1 (.cons ru2 .nil)) (by show 2 ≤ sizeLine; decide)
  have sm : Same H (upd H s.heap.objs.size (.tup [xs[i], ys[i]'(by omega)])) := Same.new hTn
  have fpN : ∀ b ∈ [z, TI, TO, i1, i2, S], FpOk X pins (upd H s.heap.objs.size (.tup [xs[i], ys[i]'(by omega)])) b := fun b hb => by
   have f := L.fp b hb
   refine ⟨?_, f.2⟩
   have hbt : b < s.heap.objs.size := by
    simp only [List.mem_cons, List.not_mem_nil, or_false] at hb
    rcases hb with e | e | e | e | e | e <;> rw [e]
    ·obtain ⟨f0, f1, hz, _⟩ := L.z; exact Heap.lt_size hz
    ·exact Heap.lt_size L.ti
    ·exact Heap.lt_size hTO
    ·obtain ⟨o, q, _⟩ := S1.ito L.i1; exact Heap.lt_size q
    ·obtain ⟨o, q, _⟩ := S2.ito L.i2; exact Heap.lt_size q
    ·exact Heap.lt_size L.l
   rw [upd_ne (Nat.ne_of_lt hbt)]; exact f.1
  have hTv : upd H s.heap.objs.size (.tup [xs[i], ys[i]'(by omega)]) s.heap.objs.size = some (.tup [xs[i], ys[i]'(by omega)]) := upd_same
  generalize upd H s.heap.objs.size (.tup [xs[i], ys[i]'(by omega)]) = H2 at I1 sm fpN hTv
  show wpAny _ A.in1 (updateSeq S (·.push (.ref s.heap.objs.size)) >>= _) _ _ _
  have hU := Heap.get?_update_self (Obj.mapSeq (·.push (Value.ref s.heap.objs.size))) hSl rfl
  have oth : ∀ b o, b ≠ S → h'.get? b = some o → (h'.update S (Obj.mapSeq (·.push (Value.ref s.heap.objs.size)))).get? b = some o := fun b o hb e => (Heap.get?_update_other _ _ (Ne.symm hb)).trans e
  have eU : (Obj.mapSeq (·.push (Value.ref s.heap.objs.size)) { cls := .type "list", dict := none, data := .seq (Ts.map Value.ref).toArray c, slots := #[] } : Obj) = { cls := .type "list", dict := none, data := .seq ((Ts ++ [s.heap.objs.size]).map Value.ref).toArray (match (Obj.mapSeq (·.push (Value.ref s.heap.objs.size)) { cls := .type "list", dict := none, data := .seq (Ts.map Value.ref).toArray c, slots := #[] } : Obj).data with | .seq _ n => n | _ => 0), slots := #[] } := by
   simp [Obj.mapSeq]
  rw [eU] at hU
  obtain ⟨b1, b2, a2⟩ := a2
  refine wpAny_bind (wpAny_updateSeq hSl rfl (wpAny_pure ⟨plainId_quiet F.plain_extend_loop _, ih (i + 1) _ H2 (Ts ++ [s.heap.objs.size]) _ (by omega) hlt ⟨I1.ended (wr := [S]) (tk := tk) (fun b hb => fpN b (by rw [List.mem_singleton.mp hb]; simp)) fun b o hb q => oth b o (fun e => hb (by simp [e])) q, fpN, ?_, oth _ _ (fun e => hS'.2.1 e.symm) (kk' L.ti), ⟨_, _, oth _ _ (fun e => hS'.2.2.1 e.symm) a2⟩, S1.itk a3.1 fun o q => oth _ o (fun e => hS'.2.2.2.1 e.symm) q, S2.itk a4.1 fun o q => oth _ o (fun e => hS'.2.2.2.2 e.symm) q, k1 _ _ sm L.s1, k2 _ _ sm L.s2, hU, by rw [List.length_append, L.n]; rfl, ?_⟩ fun s'' H' Ts' c' I' sm' f' l' n' zd' => fin s'' H' Ts' c' I' (sm.trans sm') f' l' n' zd'⟩) (by have := L.n; have : (1000 : Nat) < sizeLine := (by decide); simp; omega) (by have := L.n; have : (1000 : Nat) < sizeLine := (by decide); simp; omega))
  ·obtain ⟨f0, f1, hz, r⟩ := hz'
   exact ⟨f0, f1, oth _ _ (fun e => hS'.1 e.symm) hz, r⟩
  ·intro j T x y hj hx' hy'
   by_cases hlj : j < Ts.length
   ·rw [List.getElem?_append_left hlj] at hj
    exact sm _ _ (L.zd j T x y hj hx' hy')
   ·have ej : j = i := by
     have := (List.getElem?_eq_some_iff.mp hj).1
     rw [List.length_append, List.length_singleton] at this
     have := L.n
     omega
    subst ej
    rw [List.getElem?_append_right (by omega)] at hj
    have hn' := L.n
    rw [show j - Ts.length = 0 from by omega] at hj
    rw [hx] at hx'
    rw [hy] at hy'
    cases hj; cases hx'; cases hy'
    exact hTv
section
variable {prog : Program} {w : World} {A : Around} {s : Shared} {R : Result → Shared → Prop} {E : Value → Shared → Prop}
structure NilAt (S : Addr) (g g' : Heap) : Prop where
 it : ∃ c, g'.get? S = some { cls := .type "list", dict := none, data := .seq #[] c, slots := #[] }
 kp : KpBut S g g'
 sz : g'.objs.size = g.objs.size
theorem nil_write {S : Addr} {g g' : Heap} (n : NilAt S g g') {f : Array Value → Array Value} (hf : f #[] = #[]) {Q : Unit → Shared → Prop} (h : ∀ g2, NilAt S g g2 → Q () { s with heap := g2 }) : wpAny (model prog w) A (updateSeq S f) Q E { s with heap := g' } := by
 obtain ⟨c, e⟩ := n.it
 have e2 : (g'.update S (Obj.mapSeq f)).get? S = some { cls := .type "list", dict := none, data := .seq #[] c, slots := #[] } := by
  rw [Heap.get?_update_self _ e rfl]
  simp [Obj.mapSeq, hf]
 exact wpAny_updateSeq (s := { s with heap := g' }) e rfl (h _ ⟨⟨c, e2⟩, n.kp.trans (KpBut.upd _), (Heap.size_update ..).trans n.sz⟩) (Nat.zero_le _) (by rw [hf]; exact Nat.zero_le _)
theorem nil_touch {S : Addr} {g g' : Heap} (n : NilAt S g g') {Q : Unit → Shared → Prop} (h : ∀ g2, NilAt S g g2 → Q () { s with heap := g2 }) : wpAny (model prog w) A (Builtin.List.listTouch (.ref S)) Q E { s with heap := g' } := by
 obtain ⟨c, e⟩ := n.it
 refine wpAny_bind (wpAny_updateSeq (s := { s with heap := g' }) e rfl ?_ (Nat.zero_le _) (by decide))
 have e2 := Heap.get?_update_self (Obj.mapSeq fun x => x.push Value.none) e rfl
 refine wpAny_updateSeq (s := { s with heap := g'.update S (Obj.mapSeq fun x => x.push Value.none) }) e2 rfl (h _ ⟨⟨_, Heap.get?_update_self _ e2 rfl⟩, n.kp.trans ((KpBut.upd _).trans (KpBut.upd _)), ?_⟩) (by decide) (by decide)
 rw [Heap.size_update, Heap.size_update]; exact n.sz
def finQ (prog : Program) (w : World) (A : Around) (R : Result → Shared → Prop) : PySem.Fin → Shared → Prop
 | .done f, s' => R (.ok f) s'
 | .again c', s' => c'.quiet = true ∧ codeAny (model prog w) A c' R s'
theorem ext_zip {z S TI TO : Addr} {res : Value} {f0 : Value} {g g' : Heap} (n : NilAt S g g') (hz : IsZip g' z TI TO f0) (hSz : S ≠ z)
  (hR : ∀ g2, NilAt S g g2 → codeAny (model prog w) A (.builtin "list.extend.loop" ⟨[.ref S, .ref z, res], []⟩) R { s with heap := g2 }) :
  wpAny (model prog w) A.in1 (Builtin.List.listExtendWith (.ref S) (.ref z) res) (finQ prog w A R) E { s with heap := g' } := by
 have ty : Shared.TypeIs { s with heap := g' } (.ref z) "zip" := ⟨_, hz, rfl⟩
 have plain : (Builtin.List.listSameRef (.ref S) (.ref z) || Value.type "zip" == Value.type "list" || Value.type "zip" == Value.type "tuple") = false := by
  rw [show Builtin.List.listSameRef (.ref S) (.ref z) = false from by simp [Builtin.List.listSameRef, hSz]]; decide
 refine wpAny_bind (wpAny_typeOf ty ?_)
 rw [plain]
 refine wpAny_bind (wpAny_pyIter_zip (s := { s with heap := g' }) hz (wpAny_bind (wpAny_holding (wpAny_bind (wpAny_specialOf ty zip_no_len (wpAny_bind (wpAny_specialOf ty zip_no_hint (wpAny_pure ?_))))))))
 exact wpAny_bind (wpAny_rule (wpAny_bind (nil_touch n fun g2 n2 => wpAny_pure ⟨plainId_quiet F.plain_extend_loop _, hR g2 n2⟩)))
theorem call_list_zip {z TI TO : Addr} {f0 : Value} {Q : Value → Shared → Prop} (hz : IsZip s.heap z TI TO f0)
  (h : ∀ h' c', h'.get? s.heap.objs.size = some { cls := .type "list", dict := none, data := .seq #[] c', slots := #[] } → (∀ b o, s.heap.get? b = some o → h'.get? b = some o) → h'.objs.size = s.heap.objs.size + 1 → codeAny (model prog w) A.in1 (.builtin "list.extend.loop" ⟨[.ref s.heap.objs.size, .ref z, .none], []⟩) (wants (fun r s₂ => r = .none ∧ Q (.ref s.heap.objs.size) s₂) E) { s with heap := h' }) :
  wpAny (model prog w) A (call (.type "list") [.ref z]) Q E s := by
 have zl : z < s.heap.objs.size := Heap.lt_size hz
 refine callType_codes (Q₁ := fun v t => v = .ref s.heap.objs.size ∧ t = { s with heap := s.heap.push { cls := .type "list", data := .seq #[] } }) F.called_list (F.typeCall_list_1 _) F.entry_list_init (code_list_new _ ⟨rfl, rfl⟩) fun v t vt => ?_
 obtain ⟨rfl, rfl⟩ := vt
 have n0 : NilAt s.heap.objs.size (s.heap.push { cls := .type "list", data := .seq #[] }) (s.heap.push { cls := .type "list", data := .seq #[] }) := ⟨⟨0, Heap.get?_push_size _ rfl⟩, fun _ _ _ e => e, rfl⟩
 obtain ⟨c, e⟩ := n0.it
 refine ⟨⟨_, e, rfl⟩, F.args_list_init_2 _ _, wpAny_bind (wpAny_bind (wpAny_seqItems e rfl (wpAny_pure ?_)))⟩
 refine wpAny_bind (nil_write (s := s) n0 rfl fun g1 n1 => wpAny_bind (wpAny_letGo ?_))
 refine wpAny_mono (M := model prog w) (t := Builtin.List.listExtendWith (.ref s.heap.objs.size) (.ref z) .none) (ext_zip (s := s) (A := A.in1) (R := wants (fun r s₂ => r = .none ∧ Q (.ref s.heap.objs.size) s₂) E) n1 (n1.kp z _ (Nat.ne_of_lt zl) (Heap.get?_push_of_some _ hz)) (Nat.ne_of_gt zl) fun g2 n2 => ?_) (fun fin t q => by cases fin <;> exact q) fun _ _ q => q
 obtain ⟨c2, e2⟩ := n2.it
 exact h g2 c2 e2 (fun b o q => n2.kp b o (Nat.ne_of_lt (Heap.lt_size q)) (Heap.get?_push_of_some _ q)) (n2.sz.trans (by simp [Heap.size_push]))
end
def cLZ {P : Program} {w : World} {K : PySem.W.Frag} (S1 S2 : SeqK P w K) (ta : TA) : TE := fun σ H Q => ta σ H fun vs H1 => ∃ a b, vs = [.ref a, .ref b] ∧ (∃ xs, S1.Sq H1 a xs) ∧ (∃ xs, S2.Sq H1 b xs) ∧ ∃ xs ys, S1.Sq H1 a xs ∧ S2.Sq H1 b ys ∧ xs.length ≤ ys.length ∧ xs.length ≤ 1000 ∧ ∀ (L : Addr) (H2 : Hp) (Ts : List Addr), Same H1 H2 → H1 L = none → H2 L = some (.lst (Ts.map V.ref)) → Ts.length = xs.length → Zd H2 Ts xs ys → Q (.ref L) H2
theorem vals_refs : ∀ Ts : List Addr, Vals (Ts.map V.ref) (Ts.map Value.ref)
 | [] => .nil
 | _ :: r => .cons rfl (vals_refs r)
theorem c_lz {X : Cx} {p pos p2 pos2 : Pos} {e1 e2 : Expr} {ta : TA} (S1 S2 : SeqK X.prog X.w X.K) (zn : ZipNew2 S1 S2) (k1 : ∀ (l : Addr) (xs : List V) (H H' : Hp), Same H H' → S1.Sq H l xs → S1.Sq H' l xs) (k2 : ∀ (l : Addr) (xs : List V) (H H' : Hp), Same H H' → S2.Sq H l xs → S2.Sq H' l xs)
  (hg0 : Gl X "list") (hm0 : X.mg "list" = none) (hg : Gl X "zip") (hm : X.mg "zip" = none) (ha : PA X [e1, e2] ta) (hc : X.calm = true)
  (hs0 : starEach [.Call (.Name "zip" p2) [e1, e2] [] pos2] X.env = [(false, eval (.Call (.Name "zip" p2) [e1, e2] [] pos2) X.env)]) (hs : starEach [e1, e2] X.env = [(false, eval e1 X.env), (false, eval e2 X.env)]) (hs2 : starEach [e2] X.env = [(false, eval e2 X.env)]) :
  PE X (.Call (.Name "list" p) [.Call (.Name "zip" p2) [e1, e2] [] pos2] [] pos) (cLZ S1 S2 ta) := by
 intro pins s σ H Q I h
 refine Call_ (ld_blt I hg0 hm0 boot_list (PyProof.Rows.callWith_type1 (by
  rw [hs0]
  refine Calls.spliced_cons (thn (ev_zip2 S1 S2 zn (R := fun l1 l2 H1 => ∃ xs ys, S1.Sq H1 l1 xs ∧ S2.Sq H1 l2 ys ∧ xs.length ≤ ys.length ∧ xs.length ≤ 1000 ∧ ∀ (L : Addr) (H2 : Hp) (Ts : List Addr), Same H1 H2 → H1 L = none → H2 L = some (.lst (Ts.map V.ref)) → Ts.length = xs.length → Zd H2 Ts xs ys → Q (.ref L) H2) hg hm ha hs hs2 I h) fun v s1 ⟨l1, l2, H1, m, e, ⟨xs, ys, q1, q2, hl, hn, q⟩, I1, gz, gI, gO, g1, g2, h1, h2, fr, hsz⟩ => ?_)
  subst e
  refine Calls.spliced_nil (call_list_zip gz fun h' c' hL kp hs' => ?_)
  rw [hsz] at hL ⊢
  have I2 : Inv X pins σ H1 { s1 with heap := h' } := I1.kept (t' := s1.toks) kp
  have nS : (m + 5 : Nat) ∉ [m + 4, m + 2, m + 3, m, m + 1] := by simp
  refine lz_loop (A := X.A.in1) (S := m + 5) (xs := xs) (ys := ys) (pins := pins) (σ := σ) (S1 := S1) (S2 := S2) (z := m + 4) (TI := m + 2) (TO := m + 3) (i1 := m) (i2 := m + 1) (l1 := l1) (l2 := l2) (I1.ok.hd hc) (za_apart2 h1 h2) nS (k1 l1 xs) (k2 l2 ys) hl hn _ 0 { s1 with heap := h' } H1 [] c' rfl (Nat.zero_le _)
   ⟨I2, fun b hb => fr b (by
    simp only [List.mem_cons, List.not_mem_nil, or_false] at hb
    rcases hb with e | e | e | e | e | e <;> rw [e] <;> first | exact Nat.le_refl _ | exact Nat.le_add_right _ _), ⟨_, _, kp _ _ gz, .inl rfl, .inl rfl⟩, kp _ _ gI, ⟨_, _, kp _ _ gO⟩, S1.itk g1 fun o q => kp _ o q, S2.itk g2 fun o q => kp _ o q, q1, q2, hL, rfl, fun j T x y hj _ _ => by simp at hj⟩ fun s' H' Ts c2 I' sm' f' l' n' zd' => ?_
  have hLn : H1 (m + 5) = none := (fr (m + 5) (Nat.le_add_right _ _)).1
  have ok : ObjOk X.prog X.w (upd H' (m + 5) (.lst (Ts.map V.ref))) s'.heap (m + 5) (.lst (Ts.map V.ref)) := ⟨by rw [List.length_map, n']; have : (1000 : Nat) < sizeLine := (by decide); omega, _, c2, vals_refs Ts, l'⟩
  have smN : Same H' (upd H' (m + 5) (.lst (Ts.map V.ref))) := Same.new f'.1
  exact ⟨rfl, .ref (m + 5), _, I'.trackN (tk := s'.toks) (h' := s'.heap) f' (fun b o _ e => e) ⟨_, l'⟩ ok, rfl, q (m + 5) _ Ts (sm'.trans smN) hLn upd_same n' fun j T x y a b c => smN _ _ (zd' j T x y a b c)⟩) hs0 rfl))
theorem Same.sqT {K : PySem.W.Frag} {H H' : Hp} {a : Addr} {xs : List V} (e : Same H H') (h : SqT K H a xs) : SqT K H' a xs := by
 rcases h with (h | ⟨o, h⟩) | h
 ·exact .inl (.inl (e _ _ h))
 ·exact .inl (.inr ⟨o, e _ _ h⟩)
 ·exact .inr h
theorem cLZTT (P : Program) (w : World) (K : PySem.W.Frag) {X : Cx} {p pos p2 pos2 : Pos} {e1 e2 : Expr} {ta : TA} (hg0 : Gl X "list") (hm0 : X.mg "list" = none) (hg : Gl X "zip") (hm : X.mg "zip" = none) (ha : PA X [e1, e2] ta) (hP : X.prog = P := by rfl) (hw : X.w = w := by rfl) (hK : X.K = K := by rfl) (hc : X.calm = true := by rfl)
  (hs0 : starEach [.Call (.Name "zip" p2) [e1, e2] [] pos2] X.env = [(false, eval (.Call (.Name "zip" p2) [e1, e2] [] pos2) X.env)] := by rfl) (hs : starEach [e1, e2] X.env = [(false, eval e1 X.env), (false, eval e2 X.env)] := by rfl) (hs2 : starEach [e2] X.env = [(false, eval e2 X.env)] := by rfl) :
  PE X (.Call (.Name "list" p) [.Call (.Name "zip" p2) [e1, e2] [] pos2] [] pos) (cLZ (seqT P w K) (seqT P w K) ta) := by
 subst hP hw hK
 exact c_lz _ _ (zn_TT _ _ _) (fun _ _ _ _ e q => e.sqT q) (fun _ _ _ _ e q => e.sqT q) hg0 hm0 hg hm ha hc hs0 hs hs2
set_option maxHeartbeats 8000000 in
theorem zn_LT (P : Program) (w : World) (K : PySem.W.Frag) : ZipNew2 (seqL P w K) (seqT P w K) := ⟨trivial, trivial, fun l1 l2 xs1 xs2 =>
 .of_wp fun prog w A R s h => by
  obtain ⟨hp, g, d, tk, os⟩ := s; obtain ⟨hl1, hl2, h⟩ := h; have hsub := sub_zip
  have hL1 : Heap.IsList (Shared.heap ⟨hp, g, d, tk, os⟩) l1 xs1 := hl1
  have hL2 : Heap.IsTuple (Shared.heap ⟨(hp).push { cls := .type "list_iterator", data := .fields #[.ref l1, .int 0 0] }, g, d, tk, os⟩) l2 xs2 := Heap.IsTuple.push (hl2) _
  wp_walk using wpAny_pyIter_list hL1, wpAny_pyIter_tuple hL2
  exact ⟨_, rfl, h⟩⟩
theorem piZLT (P : Program) (w : World) (K : PySem.W.Frag) {X : Cx} {es : List Expr} {k : Nat} {p pos pos' : Pos} {e1 e2 : Expr} {ta : TA} (hg : Gl X "zip") (hm : X.mg "zip" = none) (ha : PA X [e1, e2] ta) (hP : X.prog = P := by rfl) (hw : X.w = w := by rfl) (hK : X.K = K := by rfl)
  (hs : starEach [e1, e2] X.env = [(false, eval e1 X.env), (false, eval e2 X.env)] := by rfl) (hs2 : starEach [e2] X.env = [(false, eval e2 X.env)] := by rfl) :
  PI X (.Tuple es k pos') (.Call (.Name "zip" p) [e1, e2] [] pos) (iZip (seqL P w K) (seqT P w K) ta) := by subst hP hw hK; exact pi_zip2 _ _ (zn_LT _ _ _) hg hm ha hs hs2
def Itv (K : PySem.W.Frag) (a : Addr) (xs : List V) : It := ⟨fun i H => SqL K H a xs ∧ i < xs.length, fun i H v H' => H' = H ∧ xs[xs.length - 1 - i]? = some v, fun i H => SqL K H a xs ∧ i = xs.length⟩
theorem turn_rev {P : Program} {w : World} {K : PySem.W.Frag} {tg : Expr} (a it : Addr) (xs : List V) : Turn P w K tg (Itv K a xs) [it] it (fun i h => h.IsRevIter it a ((xs.length : Int) - 1 - (i : Int))) where
 mem := by simp
 obj := fun i h st b hb => by
  have e : b = it := by simpa using hb
  subst e
  obtain ⟨o, e, c, d⟩ := st
  exact ⟨o, e, fun v z => by rw [d] at z; cases z⟩
 keep := fun i h h' st k => st.at fun o e => k it (by simp) o e
 item := by
  intro X hP hw hK hc i pins s σ H E I hf st hg
  subst hP hw hK
  obtain ⟨hq, hi⟩ := hg
  obtain ⟨its, rv, p, hz⟩ := I.list hq
  have hx : xs[xs.length - 1 - i]? = some (xs[xs.length - 1 - i]'(by omega)) := List.getElem?_eq_getElem _
  obtain ⟨u, hu, ru⟩ := rv.get hx
  obtain ⟨f0, f1, f2, f3, f4, f5⟩ := hf it (by simp)
  have e0 : (xs.length : Int) - 1 - (i : Int) = ((xs.length - 1 - i : Nat) : Int) := by omega
  rw [e0] at st
  refine wpAny_pyNext_rev_item st p.isList (x := u) (by simpa using hu) fun h' st' sb => ?_
  have e2 : ((xs.length - 1 - i : Nat) : Int) - 1 = (xs.length : Int) - 1 - ((i + 1 : Nat) : Int) := by omega
  rw [e2] at st'
  have I1 : Inv X pins σ H { s with heap := h' } := I.turned (t' := s.toks) (fun b o hb e => (sb.2 b hb).trans e) f0 f1 f3 f4 f5
  obtain ⟨o, e, c, d⟩ := id st'
  exact ⟨u, rfl, go_of (s := { s with heap := h' }) e c d (by decide) ⟨_, H, I1, ru, ⟨rfl, hx⟩, st', fun b hb => (hf b hb).1⟩⟩
 done := by
  intro X hP hw hK hc i pins s σ H E I hf st hg
  subst hP hw hK
  obtain ⟨hq, rfl⟩ := hg
  obtain ⟨f0, f1, f2, f3, f4, f5⟩ := hf it (by simp)
  have e0 : (xs.length : Int) - 1 - (xs.length : Int) = -1 := by omega
  rw [e0] at st
  exact wpAny_pyNext_rev_end (I.ok.hd hc) st fun h' eb => ⟨rfl, I.turned (t' := s.toks) (fun b o hb e => eb b o hb e) f0 f1 f3 f4 f5⟩
 self := fun _ _ _ _ _ st h => wpAny_pyIter_revIter st h
def iRevL (K : PySem.W.Frag) (ta : TA) : TI := fun σ H R => ta σ H fun vs H1 => ∃ a xs, vs = [.ref a] ∧ SqL K H1 a xs ∧ R (Itv K a xs) H1
theorem pi_revL {X : Cx} {tg a : Expr} {ta : TA} {p pos : Pos} (hg0 : Gl X "reversed") (hm0 : X.mg "reversed" = none) (ha : PA X [a] ta) (hs : starEach [a] X.env = [(false, eval a X.env)]) :
  PI X tg (.Call (.Name "reversed" p) [a] [] pos) (iRevL X.K ta) := by
 intro pins s σ H R I h
 refine Call_ (ld_blt I hg0 hm0 boot_reversed (PyProof.Rows.callWith_type1 (thn (ha pos pins s σ H _ I h) fun us s1 ⟨vs, H1, I1, r1, q1⟩ => ?_) hs rfl))
 obtain ⟨l, xs, e, hq, q⟩ := q1
 subst e
 cases r1 with
 | cons r rr =>
  cases rr
  cases r
  obtain ⟨its, rv, pl, hz⟩ := I1.list hq
  have hlen := rv.length
  refine call_reversed_list pl.isList ?_
  have kk : ∀ b ob, s1.heap.get? b = some ob → (s1.heap.push (revObj l ((its.toArray.size : Int) - 1))).get? b = some ob := fun b ob q => Heap.get?_push_of_some _ q
  have hit : (s1.heap.push (revObj l ((its.toArray.size : Int) - 1))).IsRevIter s1.heap.objs.size l ((xs.length : Int) - 1 - ((0 : Nat) : Int)) := by
   refine ⟨_, Heap.get?_push_size _ rfl, rfl, ?_⟩
   have e : ((its.toArray.size : Nat) : Int) - 1 = (xs.length : Int) - 1 - ((0 : Nat) : Int) := by simp; omega
   rw [e]; rfl
  generalize s1.heap.push (revObj l ((its.toArray.size : Int) - 1)) = h2 at kk hit
  refine wpAny_pyIter_revIter hit ⟨s1.heap.objs.size, [s1.heap.objs.size], _, _, H1, rfl, I1.kept (t' := _) kk, turn_rev l _ xs, hit, fun b hb => ?_, q⟩
  rw [List.mem_singleton.mp hb]; exact I1.fpOk (Nat.le_refl _) (I1.hok.fresh (Nat.le_refl _))
theorem piRevL (K : PySem.W.Frag) {X : Cx} {tg a : Expr} {ta : TA} {p pos : Pos} (hg0 : Gl X "reversed") (hm0 : X.mg "reversed" = none) (ha : PA X [a] ta) (hK : X.K = K := by rfl) (hs : starEach [a] X.env = [(false, eval a X.env)] := by rfl) :
  PI X tg (.Call (.Name "reversed" p) [a] [] pos) (iRevL K ta) := by subst hK; exact pi_revL hg0 hm0 ha hs
theorem for_rev {K : PySem.W.Frag} {a : Addr} {xs : List V} {g : TG} {tb : TS} {D : Ends} {σ : St} {H : Hp} (Pv : Nat → St → Hp → Prop) (h0 : Pv 0 σ H) (hl : ∀ i σ H, i ≤ xs.length → Pv i σ H → SqL K H a xs)
  (hs : ∀ i x σ H, i < xs.length → xs[xs.length - 1 - i]? = some x → Pv i σ H → g x σ H fun σ2 H2 => tb { D with nx := Pv (i + 1), ct := Pv (i + 1), bk := D.nx } σ2 H2) (hd : ∀ σ H, Pv xs.length σ H → D.nx σ H) :
  ∃ W : Nat → Nat → St → Hp → Prop, (∃ m, W 0 m σ H) ∧ ∀ i m σ H, W i m σ H →
   ((Itv K a xs).stop i H ∧ D.nx σ H) ∨ ((Itv K a xs).go i H ∧ ∃ N : St → Hp → Prop, (∀ σ' H', N σ' H' → ∃ m', m' < m ∧ W (i + 1) m' σ' H') ∧ ∀ x H', (Itv K a xs).yld i H x H' → g x σ H' fun σ2 H2 => tb { D with nx := N, ct := N, bk := D.nx } σ2 H2) := by
 refine ⟨fun i m σ H => m = xs.length - i ∧ i ≤ xs.length ∧ Pv i σ H, ⟨xs.length, by simp, Nat.zero_le _, h0⟩, ?_⟩
 rintro i m σ H ⟨rfl, hi, p⟩
 have q := hl i σ H hi p
 by_cases hlt : i < xs.length
 ·refine .inr ⟨⟨q, hlt⟩, Pv (i + 1), fun σ' H' p' => ⟨xs.length - (i + 1), by omega, rfl, hlt, p'⟩, fun x H' y => ?_⟩
  obtain ⟨e, y⟩ := y
  subst e
  exact hs i x σ _ hlt y p
 ·have e : i = xs.length := by omega
  subst e
  exact .inl ⟨⟨q, rfl⟩, hd _ _ p⟩
end L2

end

section
namespace L2
open PySem PySem.Spec PyProof.Rows
theorem call_maxT {X : Cx} (hc : X.calm = true) : CallR X (.builtin "max") (fun xs H Q => ∃ (p : Addr) (ns : List Int), xs = [.ref p] ∧ H p = some (.tup (ns.map V.int)) ∧ ns ≠ [] ∧ ∀ M, M ∈ ns → (∀ a ∈ ns, a ≤ M) → Q (.int M) H) := by
 intro pins s σ H xs us Q I r h
 obtain ⟨p, ns, rfl, hp, hne, q⟩ := h
 obtain ⟨u, rfl, ru⟩ := r.one
 cases ru
 obtain ⟨its, rv, pl, hz⟩ := I.tuple (SqT.of hp)
 obtain ⟨ys, e, at_⟩ := items_of rv
 have pos := items_pos at_ hne
 have best := argBest_gt (numAt ys) (ys.size - 1)
 have tu : s.heap.IsTuple p (intItems ys) := by rw [← e]; exact pl
 have lp : p < s.heap.objs.size := by obtain ⟨o, z, _⟩ := tu; exact Heap.lt_size z
 have big : ∀ b ∈ [s.heap.objs.size, p], b < (s.heap.push { cls := .type "tuple_iterator", data := .fields #[.ref p, .int 0 0] }).objs.size := fun b hb => by
  rw [Heap.size_push]
  have two : b = s.heap.objs.size ∨ b = p := by simpa using hb
  rcases two with z | z <;> rw [z]
  ·exact Nat.lt_succ_self _
  ·exact Nat.lt_succ_of_lt lp
 refine call_max_walk (wpAny_pyIter_tuple tu ⟨_, _, _, _, _, _, _, rfl, Walks.tuple (A := X.A.in1) (I.ok.hd hc) _ p (Nat.ne_of_lt lp) (intItems ys), ⟨⟨_, Heap.get?_push_size _ rfl, rfl, rfl⟩, tu.push _⟩, big, by simpa [intItems] using pos, CmpOf.ints_gt (numAt ys) (fun _ _ => intItems_at), fun v g tk hv kp => ?_⟩)
 have hv' : (intItems ys)[argBest (fun i j => decide (numAt ys i > numAt ys j)) (ys.size - 1)]? = some v := by simpa [intItems] using hv
 obtain ⟨t, z⟩ := intItems_at hv'
 rw [z]
 refine ⟨.int _, H, I.kept fun b o eb => kp b o (fun hb => ?_) (Heap.get?_push_of_some _ eb), ⟨t, rfl⟩, q _ ((at_ _).mpr ⟨_, by omega, rfl⟩) fun a ha => ?_⟩
 ·have : b = s.heap.objs.size := by simpa using hb
  rw [this] at eb
  exact Nat.lt_irrefl _ (Heap.lt_size eb)
 ·obtain ⟨j, hj, y⟩ := (at_ a).mp ha
  rw [← y]
  exact best.2 j (by omega)
end L2

end

section
namespace MF
open PySem PySem.Spec PyProof.Rows L2
def top (i : Nat) : Stmt := PySem.Challenge.pw_mainfires_k33_whole_stretches_and_mains.main.body.getD i (.Pass ⟨0, 0, 0, 0⟩)
abbrev s_is_whole : Stmt := top 6
abbrev s_is_whole_from : Stmt := top 7
abbrev s_is_tuple_of : Stmt := top 8
abbrev s_is_plant : Stmt := top 17
abbrev s_are_boilers : Stmt := top 18
abbrev s_is_make_and_coal : Stmt := top 19
abbrev s_are_engines : Stmt := top 20
abbrev s_is_engine : Stmt := top 21
abbrev s_is_main : Stmt := top 22
abbrev s_need_plant : Stmt := top 23
abbrev s_is_story : Stmt := top 24
abbrev s_is_fault : Stmt := top 25
abbrev s_need_story : Stmt := top 26
abbrev s_caps_of : Stmt := top 27
abbrev s_caps_in : Stmt := top 28
abbrev s_words_for : Stmt := top 29
abbrev s_cap_under : Stmt := top 30
abbrev s_draws_of : Stmt := top 31
abbrev s_drawn_by : Stmt := top 32
abbrev s_terms_of : Stmt := top 33
abbrev s_is_firing : Stmt := top 34
abbrev s_is_firing_within : Stmt := top 35
abbrev s_is_row : Stmt := top 36
abbrev s_need_firing : Stmt := top 37
abbrev s_full_firing : Stmt := top 38
abbrev s_run_day : Stmt := top 40
abbrev s_course : Stmt := top 41
abbrev s_falls_at : Stmt := top 42
abbrev s_keeps_up : Stmt := top 43
abbrev s_is_stretch : Stmt := top 45
abbrev s_is_too_much : Stmt := top 46
abbrev s_is_shown : Stmt := top 47
abbrev s_least_stretch : Stmt := top 48
abbrev s_stretch_holds : Stmt := top 49
abbrev s_stretch_of : Stmt := top 50
abbrev s_fullest : Stmt := top 51
abbrev s_leanest : Stmt := top 52
abbrev s_least_mains : Stmt := top 53
abbrev s_floor_at : Stmt := top 55
abbrev s_highest_floor : Stmt := top 56
abbrev s_tails_from : Stmt := top 57
abbrev s_coal_under : Stmt := top 58
abbrev s_least_coal : Stmt := top 59
abbrev s__law_cell : Stmt := top 61
abbrev s__law_pen : Stmt := top 62
abbrev s__law_draw : Stmt := top 63
abbrev s__law_plant : Stmt := top 64
abbrev s__law_story : Stmt := top 65
abbrev s__law_caps : Stmt := top 66
abbrev s__law_firing : Stmt := top 67
abbrev s__law_behind : Stmt := top 68
abbrev s__law_leanest_right : Stmt := top 69
abbrev s__law_right : Stmt := top 70
abbrev s_law : Stmt := top 71
structure Tx (mg : Str → Option Value) : Prop where
 b_all : mg "all" = none
 b_bool : mg "bool" = none
 b_divmod : mg "divmod" = none
 b_enumerate : mg "enumerate" = none
 b_int : mg "int" = none
 b_isinstance : mg "isinstance" = none
 b_len : mg "len" = none
 b_list : mg "list" = none
 b_max : mg "max" = none
 b_min : mg "min" = none
 b_range : mg "range" = none
 b_reversed : mg "reversed" = none
 b_sum : mg "sum" = none
 b_tuple : mg "tuple" = none
 b_zip : mg "zip" = none
 g_MOST_BOILERS : ∃ t, mg "MOST_BOILERS" = some (.int 4 t)
 g_MOST_ENGINES : ∃ t, mg "MOST_ENGINES" = some (.int 4 t)
 g_MOST_FAULTS : ∃ t, mg "MOST_FAULTS" = some (.int 4 t)
 g_MOST_HOURS : ∃ t, mg "MOST_HOURS" = some (.int 8 t)
 g_MOST_UNITS : ∃ t, mg "MOST_UNITS" = some (.int 9 t)
 g_MOST_EXTRA : ∃ t, mg "MOST_EXTRA" = some (.int 20 t)
 g_MOST_IN_MAIN : ∃ t, mg "MOST_IN_MAIN" = some (.int 40 t)
def isWhole : PyData → Bool | .int _ => true | _ => false
def isWF (d : PyData) (lo hi : Int) : Bool := match d with | .int i => decide (lo ≤ i) && decide (i ≤ hi) | _ => false
def isTO (d : PyData) (lo hi : Int) : Bool := match d with | .tuple ds => decide (lo ≤ (ds.length : Int)) && decide ((ds.length : Int) ≤ hi) | _ => false
def sp_is_whole : Sp := fun vs H Q _ => match vs with | [v] => ∃ p d, Rep p H d v ∧ ∀ b, b = isWhole d → Q (.bl b) H | _ => False
def sp_is_whole_from : Sp := fun vs H Q _ => match vs with | [v, .int lo, .int hi] => ∃ p d, Rep p H d v ∧ ∀ b, b = isWF d lo hi → Q (.bl b) H | _ => False
def sp_is_tuple_of : Sp := fun vs H Q _ => match vs with | [v, .int lo, .int hi] => ∃ p d, Rep p H d v ∧ ∀ b, b = isTO d lo hi → Q (.bl b) H | _ => False
section
variable {P : Program} {w : World} {K : PySem.W.Frag} {mg : Str → Option Value} {base : Heap}
theorem sc_is_whole : FnScope ["thing"] ["thing"] (defScope s_is_whole) := ⟨rfl, rfl, rfl, by decide +kernel, rfl, by decide +kernel, by decide +kernel⟩
theorem ok_is_whole (F : Df K mg "is_whole" s_is_whole ["thing"]) (T : Tx mg)  : Fn P w K mg base 1 "is_whole" ["thing"] sp_is_whole := by
 refine F.fn sc_is_whole (fun vs H Q E h => ?_) (fun f cdv A outer s H vs Q E hr h => ?_)
 ·unfold sp_is_whole at h; split at h; rfl; exact h.elim
 refine ⟨_, (pss_one (ps_ret (c_andV (pe_callB call_isi rfl T.b_isinstance boot_isinstance (pa2 (cx 0 (by rfl)) (pe_bltn (v := .ty "int") rfl T.b_int L2.boot_int rfl (by decide) (by decide)) (by rfl)) (by decide) (by decide) (by rfl) (by rfl)) (pe_one (c_notV (pe_callB call_isi rfl T.b_isinstance boot_isinstance (pa2 (cx 0 (by rfl)) (pe_bltn (v := .ty "bool") rfl T.b_bool L2.boot_bool rfl (by decide) (by decide)) (by rfl)) (by decide) (by decide) (by rfl) (by rfl))))))), ?_⟩
 unfold sp_is_whole at h
 split at h
 ·rename_i v
  obtain ⟨p, d, r, q⟩ := h
  refine ⟨_, r.ty, .inl rfl, ⟨fun c => ⟨_, r.ty, .inr (.inl rfl), ?_⟩, fun c => ?_⟩⟩
  ·exact q _ (by cases d <;> first | rfl | cases c)
  ·exact q _ (by cases d <;> first | rfl | cases c)
 ·exact h.elim
theorem sc_is_whole_from : FnScope ["thing", "least", "most"] ["thing", "least", "most"] (defScope s_is_whole_from) := ⟨rfl, rfl, rfl, by decide +kernel, rfl, by decide +kernel, by decide +kernel⟩
theorem ok_is_whole_from (F : Df K mg "is_whole_from" s_is_whole_from ["thing", "least", "most"]) (T : Tx mg) (D_is_whole : Fn P w K mg base 1 "is_whole" ["thing"] sp_is_whole) : Fn P w K mg base 2 "is_whole_from" ["thing", "least", "most"] sp_is_whole_from := by
 refine F.fn sc_is_whole_from (fun vs H Q E h => ?_) (fun f cdv A outer s H vs Q E hr h => ?_)
 ·unfold sp_is_whole_from at h; split at h; rfl; exact h.elim
 refine ⟨_, (pss_one (ps_ret (c_andV (c_call D_is_whole (hr.mono (by decide)) rfl (pa1 (cx 0 (by rfl)) (by rfl)) (by decide) (by rfl) (by rfl)) (pe_one (c_chain o_le o_le (cx 1 (by rfl)) (cx 0 (by rfl)) (cx 2 (by rfl)) (by with_unfolding_all rfl)))))), ?_⟩
 unfold sp_is_whole_from at h
 split at h
 ·rename_i v lo hi
  obtain ⟨p, d, r, q⟩ := h
  refine ⟨p, d, r, fun b hb => ⟨fun c => ?_, fun c => ?_⟩⟩
  ·subst c
   cases d <;> first | cases hb | skip
   rename_i i
   unfold Rep at r
   subst r
   refine ⟨fun c => ?_, fun c => ?_⟩
   ·exact q _ (by unfold isWF; dsimp only; rw [c]; rfl)
   ·exact q _ (by unfold isWF; dsimp only; rw [c]; rfl)
  ·subst c
   exact q _ (by cases d <;> first | rfl | cases hb)
 ·exact h.elim
theorem sc_is_tuple_of : FnScope ["thing", "fewest", "most"] ["thing", "fewest", "most"] (defScope s_is_tuple_of) := ⟨rfl, rfl, rfl, by decide +kernel, rfl, by decide +kernel, by decide +kernel⟩
theorem ok_is_tuple_of (F : Df K mg "is_tuple_of" s_is_tuple_of ["thing", "fewest", "most"]) (T : Tx mg)  : Fn P w K mg base 1 "is_tuple_of" ["thing", "fewest", "most"] sp_is_tuple_of := by
 refine F.fn sc_is_tuple_of (fun vs H Q E h => ?_) (fun f cdv A outer s H vs Q E hr h => ?_)
 ·unfold sp_is_tuple_of at h; split at h; rfl; exact h.elim
 refine ⟨_, (pss_one (ps_ret (c_andV (pe_callB call_isi rfl T.b_isinstance boot_isinstance (pa2 (cx 0 (by rfl)) (pe_bltn (v := .ty "tuple") rfl T.b_tuple boot_tuple' rfl (by decide) (by decide)) (by rfl)) (by decide) (by decide) (by rfl) (by rfl)) (pe_one (c_chain o_le o_le (cx 1 (by rfl)) (pe_callB (lenS K (by rfl)) rfl T.b_len PySem.boot_len (pa1 (cx 0 (by rfl)) (by rfl)) (by decide) (by decide) (by rfl) (by rfl)) (cx 2 (by rfl)) (by with_unfolding_all rfl)))))), ?_⟩
 unfold sp_is_tuple_of at h
 split at h
 ·rename_i v lo hi
  obtain ⟨p, d, r, q⟩ := h
  refine ⟨_, r.ty, .inr (.inr (.inl rfl)), ⟨fun c => ?_, fun c => ?_⟩⟩
  ·cases d <;> first | cases c | skip
   rename_i ds
   unfold Rep at r
   obtain ⟨a, xs, rfl, ha, rs⟩ := r
   refine ⟨a, xs, rfl, .inr (SqT.of ha), ?_⟩
   rw [← rs.len]
   refine ⟨fun c => ?_, fun c => ?_⟩
   ·exact q _ (by unfold isTO; dsimp only; rw [c]; rfl)
   ·exact q _ (by unfold isTO; dsimp only; rw [c]; rfl)
  ·exact q _ (by cases d <;> first | rfl | cases c)
 ·exact h.elim
end
end MF

end

section
namespace MF
open PySem PySem.Spec PyProof.Rows L2
theorem take_map {α β : Type} {ds : List α} {i : Nat} {d : α} (f : α → β) (h : ds[i]? = some d) : (ds.take (i + 1)).map f = (ds.take i).map f ++ [f d] := by
 rw [List.take_add_one, h, List.map_append]; rfl
def isMC (d : PyData) : Bool := match d with | .tuple [a, b] => isWF a 1 9 && isWF b 1 9 | _ => false
def isEng (d : PyData) : Bool := match d with | .tuple [a, b, c] => isWF a 1 9 && isWF b 0 7 && isWF c 1 8 | _ => false
def isMain (d : PyData) : Bool := match d with
 | .tuple [a, b, c] => isWF b 0 40 && match b with | .int hi => isWF c 0 hi && (match c with | .int st => isWF a 0 st | _ => false) | _ => false
 | _ => false
def isBoilers (d : PyData) : Bool := match d with | .tuple ds => isTO d 1 4 && ds.all isMC | _ => false
def isEngines (d : PyData) : Bool := match d with | .tuple ds => isTO d 0 4 && ds.all isEng | _ => false
def isPlant (d : PyData) : Bool := match d with | .tuple [a, b, c] => isBoilers a && isEngines b && isMain c | _ => false
def spLook (f : PyData → Bool) : Sp := fun vs H Q _ => match vs with | [v] => ∃ p d, Rep p H d v ∧ ∀ b H', b = f d → Same H H' → Q (.bl b) H' | _ => False
theorem spLook_len {f : PyData → Bool} {vs H Q E} (h : spLook f vs H Q E) : vs.length = 1 := by unfold spLook at h; split at h; rfl; exact h.elim
abbrev sp_is_make_and_coal : Sp := spLook isMC
abbrev sp_is_engine : Sp := spLook isEng
abbrev sp_is_main : Sp := spLook isMain
abbrev sp_are_boilers : Sp := spLook isBoilers
abbrev sp_are_engines : Sp := spLook isEngines
abbrev sp_is_plant : Sp := spLook isPlant
theorem len_is_make_and_coal {vs H Q E} (h : sp_is_make_and_coal vs H Q E) : vs.length = 1 := spLook_len h
theorem len_is_engine {vs H Q E} (h : sp_is_engine vs H Q E) : vs.length = 1 := spLook_len h
theorem len_is_main {vs H Q E} (h : sp_is_main vs H Q E) : vs.length = 1 := spLook_len h
theorem len_are_boilers {vs H Q E} (h : sp_are_boilers vs H Q E) : vs.length = 1 := spLook_len h
theorem len_are_engines {vs H Q E} (h : sp_are_engines vs H Q E) : vs.length = 1 := spLook_len h
theorem len_is_plant {vs H Q E} (h : sp_is_plant vs H Q E) : vs.length = 1 := spLook_len h
theorem two {ds : List PyData} (h : isTO (.tuple ds) 2 2 = true) : ∃ a b, ds = [a, b] := by
 unfold isTO at h; simp only [Bool.and_eq_true, decide_eq_true_eq] at h
 match ds, h with
 | [a, b], _ => exact ⟨a, b, rfl⟩
 | [], h => simp at h
 | [_], h => simp at h
 | _ :: _ :: _ :: _, h => simp at h; omega
theorem three {ds : List PyData} (h : isTO (.tuple ds) 3 3 = true) : ∃ a b c, ds = [a, b, c] := by
 unfold isTO at h; simp only [Bool.and_eq_true, decide_eq_true_eq] at h
 match ds, h with
 | [a, b, c], _ => exact ⟨a, b, c, rfl⟩
 | [], h => simp at h
 | [_], h => simp at h
 | [_, _], h => simp at h
 | _ :: _ :: _ :: _ :: _, h => simp at h; omega
theorem isTO_tup {d : PyData} {lo hi : Int} (h : isTO d lo hi = true) : ∃ ds, d = .tuple ds := by
 cases d <;> first | exact ⟨_, rfl⟩ | cases h
theorem Rep.shape {p : Addr} {H : Hp} {ds : List PyData} {v : V} (r : Rep p H (.tuple ds) v) : ∃ a xs, v = .ref a ∧ H a = some (.tup xs) ∧ Reps p H ds xs := by unfold Rep at r; exact r
theorem Reps.two {p : Addr} {H : Hp} {a b : PyData} {xs : List V} (r : Reps p H [a, b] xs) : ∃ x y, xs = [x, y] ∧ Rep p H a x ∧ Rep p H b y := by
 unfold Reps at r; obtain ⟨x, s, rfl, hx, r⟩ := r; unfold Reps at r; obtain ⟨y, s, rfl, hy, r⟩ := r; unfold Reps at r; subst r; exact ⟨x, y, rfl, hx, hy⟩
theorem Reps.three {p : Addr} {H : Hp} {a b c : PyData} {xs : List V} (r : Reps p H [a, b, c] xs) : ∃ x y z, xs = [x, y, z] ∧ Rep p H a x ∧ Rep p H b y ∧ Rep p H c z := by
 unfold Reps at r; obtain ⟨x, s, rfl, hx, r⟩ := r; obtain ⟨y, z, rfl, hy, hz⟩ := Reps.two r; exact ⟨x, y, z, rfl, hx, hy, hz⟩
section
variable {P : Program} {w : World} {K : PySem.W.Frag} {mg : Str → Option Value} {base : Heap}
theorem sc_is_make_and_coal : FnScope ["thing", "make", "coal"] ["thing"] (defScope s_is_make_and_coal) := ⟨rfl, rfl, rfl, by decide +kernel, rfl, by decide +kernel, by decide +kernel⟩
theorem ok_is_make_and_coal (F : Df K mg "is_make_and_coal" s_is_make_and_coal ["thing"]) (T : Tx mg) (D_is_tuple_of : Fn P w K mg base 1 "is_tuple_of" ["thing", "fewest", "most"] sp_is_tuple_of) (D_is_whole_from : Fn P w K mg base 2 "is_whole_from" ["thing", "least", "most"] sp_is_whole_from) : Fn P w K mg base 3 "is_make_and_coal" ["thing"] sp_is_make_and_coal := by
 obtain ⟨t_MOST_UNITS, g_MOST_UNITS⟩ := T.g_MOST_UNITS
 refine F.fn sc_is_make_and_coal (fun vs H Q E h => ?_) (fun f cdv A outer s H vs Q E hr h => ?_)
 ·exact len_is_make_and_coal h
 refine ⟨_, (pss_cons (c_if (pt_not (c_val (c_call D_is_tuple_of (hr.mono (by decide)) rfl (pa3 (cx 0 (by rfl)) pe_int pe_int (by rfl)) (by decide) (by rfl) (by rfl)) (by intro _; rfl))) (pss_one (ps_ret pe_bl)) pss_nil) (pss_cons (ps_asg (cx 0 (by rfl)) (pgT K (n := 2) (pgs_cons (pgx 1 sc_is_make_and_coal.nd (by rfl)) (pgs_cons (pgx 2 sc_is_make_and_coal.nd (by rfl)) pgs_nil (by rfl)) (by rfl)) (by rfl) (by rfl) (by rfl) (by rfl)) (by rfl) (by rfl) (by rfl)) (pss_one (ps_ret (c_andV (c_call D_is_whole_from (hr.mono (by decide)) rfl (pa3 (cx 1 (by rfl)) pe_int (pe_glob (v := .int 9) rfl g_MOST_UNITS ⟨t_MOST_UNITS, rfl⟩ (by decide)) (by rfl)) (by decide) (by rfl) (by rfl)) (pe_one (c_call D_is_whole_from (hr.mono (by decide)) rfl (pa3 (cx 2 (by rfl)) pe_int (pe_glob (v := .int 9) rfl g_MOST_UNITS ⟨t_MOST_UNITS, rfl⟩ (by decide)) (by rfl)) (by decide) (by rfl) (by rfl)))))))), ?_⟩
 unfold sp_is_make_and_coal spLook at h
 split at h
 ·rename_i v
  obtain ⟨p, d, r, q⟩ := h
  refine ⟨p, d, r, fun b hb => ⟨fun c => ?_, fun c => ?_⟩⟩
  ·refine q false H ?_ (Same.refl _)
   have e : isTO d 2 2 = false := by rw [← hb]; simpa using c
   cases d <;> first | rfl | skip
   rename_i ds
   match ds, e with
   | [a, b], e => cases e
   | [], _ => rfl
   | [_], _ => rfl
   | _ :: _ :: _ :: _, _ => rfl
  ·have e : isTO d 2 2 = true := by rw [← hb]; simpa using c
   obtain ⟨ds, rfl⟩ := isTO_tup e
   obtain ⟨a, b, rfl⟩ := two e
   obtain ⟨l, xs, rfl, hl, rs⟩ := Rep.shape r
   obtain ⟨x, y, rfl, rx, ry⟩ := Reps.two rs
   refine ⟨l, [x, y], rfl, SqT.of hl, rfl, x, [y], rfl, y, [], rfl, rfl, p, a, rx, fun b1 e1 => ⟨fun c => ⟨p, b, ry, fun b2 e2 => ?_⟩, fun c => ?_⟩⟩
   ·exact q _ _ (by unfold isMC; dsimp only; rw [e2, ← e1, c]; rfl) (Same.refl _)
   ·exact q _ _ (by unfold isMC; dsimp only; rw [← e1, c]; rfl) (Same.refl _)
 ·exact h.elim
theorem sc_is_engine : FnScope ["thing", "draw", "first", "every"] ["thing"] (defScope s_is_engine) := ⟨rfl, rfl, rfl, by decide +kernel, rfl, by decide +kernel, by decide +kernel⟩
theorem ok_is_engine (F : Df K mg "is_engine" s_is_engine ["thing"]) (T : Tx mg) (D_is_tuple_of : Fn P w K mg base 1 "is_tuple_of" ["thing", "fewest", "most"] sp_is_tuple_of) (D_is_whole_from : Fn P w K mg base 2 "is_whole_from" ["thing", "least", "most"] sp_is_whole_from) : Fn P w K mg base 3 "is_engine" ["thing"] sp_is_engine := by
 obtain ⟨t_MOST_HOURS, g_MOST_HOURS⟩ := T.g_MOST_HOURS
 obtain ⟨t_MOST_UNITS, g_MOST_UNITS⟩ := T.g_MOST_UNITS
 refine F.fn sc_is_engine (fun vs H Q E h => ?_) (fun f cdv A outer s H vs Q E hr h => ?_)
 ·exact len_is_engine h
 refine ⟨_, (pss_cons (c_if (pt_not (c_val (c_call D_is_tuple_of (hr.mono (by decide)) rfl (pa3 (cx 0 (by rfl)) pe_int pe_int (by rfl)) (by decide) (by rfl) (by rfl)) (by intro _; rfl))) (pss_one (ps_ret pe_bl)) pss_nil) (pss_cons (ps_asg (cx 0 (by rfl)) (pgT K (n := 3) (pgs_cons (pgx 1 sc_is_engine.nd (by rfl)) (pgs_cons (pgx 2 sc_is_engine.nd (by rfl)) (pgs_cons (pgx 3 sc_is_engine.nd (by rfl)) pgs_nil (by rfl)) (by rfl)) (by rfl)) (by rfl) (by rfl) (by rfl) (by rfl)) (by rfl) (by rfl) (by rfl)) (pss_one (ps_ret (c_andV (c_call D_is_whole_from (hr.mono (by decide)) rfl (pa3 (cx 1 (by rfl)) pe_int (pe_glob (v := .int 9) rfl g_MOST_UNITS ⟨t_MOST_UNITS, rfl⟩ (by decide)) (by rfl)) (by decide) (by rfl) (by rfl)) (c_andV (c_call D_is_whole_from (hr.mono (by decide)) rfl (pa3 (cx 2 (by rfl)) pe_int (pe_op o_sub (pe_glob (v := .int 8) rfl g_MOST_HOURS ⟨t_MOST_HOURS, rfl⟩ (by decide)) pe_int) (by rfl)) (by decide) (by rfl) (by rfl)) (pe_one (c_call D_is_whole_from (hr.mono (by decide)) rfl (pa3 (cx 3 (by rfl)) pe_int (pe_glob (v := .int 8) rfl g_MOST_HOURS ⟨t_MOST_HOURS, rfl⟩ (by decide)) (by rfl)) (by decide) (by rfl) (by rfl))))))))), ?_⟩
 unfold sp_is_engine spLook at h
 split at h
 ·rename_i v
  obtain ⟨p, d, r, q⟩ := h
  refine ⟨p, d, r, fun b hb => ⟨fun c => ?_, fun c => ?_⟩⟩
  ·refine q false H ?_ (Same.refl _)
   have e : isTO d 3 3 = false := by rw [← hb]; simpa using c
   cases d <;> first | rfl | skip
   rename_i ds
   match ds, e with
   | [a, b, c], e => cases e
   | [], _ => rfl
   | [_], _ => rfl
   | [_, _], _ => rfl
   | _ :: _ :: _ :: _ :: _, _ => rfl
  ·have e : isTO d 3 3 = true := by rw [← hb]; simpa using c
   obtain ⟨ds, rfl⟩ := isTO_tup e
   obtain ⟨a, b, c', rfl⟩ := three e
   obtain ⟨l, xs, rfl, hl, rs⟩ := Rep.shape r
   obtain ⟨x, y, z, rfl, rx, ry, rz⟩ := Reps.three rs
   refine ⟨l, [x, y, z], rfl, SqT.of hl, rfl, x, [y, z], rfl, y, [z], rfl, z, [], rfl, rfl, p, a, rx, fun b1 e1 => ⟨fun c => ⟨p, b, ry, fun b2 e2 => ⟨fun c2 => ⟨p, c', rz, fun b3 e3 => ?_⟩, fun c2 => ?_⟩⟩, fun c => ?_⟩⟩
   ·exact q _ _ (by unfold isEng; dsimp only; rw [e3, ← e1, c]; rw [show isWF b 0 7 = true from by rw [← c2, e2]; rfl]; rfl) (Same.refl _)
   ·exact q _ _ (by unfold isEng; dsimp only; rw [← e1, c]; rw [show isWF b 0 7 = false from by rw [← c2, e2]; rfl]; rfl) (Same.refl _)
   ·exact q _ _ (by unfold isEng; dsimp only; rw [← e1, c]; rfl) (Same.refl _)
 ·exact h.elim
theorem sc_is_main : FnScope ["thing", "low", "high", "start"] ["thing"] (defScope s_is_main) := ⟨rfl, rfl, rfl, by decide +kernel, rfl, by decide +kernel, by decide +kernel⟩
theorem ok_is_main (F : Df K mg "is_main" s_is_main ["thing"]) (T : Tx mg) (D_is_tuple_of : Fn P w K mg base 1 "is_tuple_of" ["thing", "fewest", "most"] sp_is_tuple_of) (D_is_whole_from : Fn P w K mg base 2 "is_whole_from" ["thing", "least", "most"] sp_is_whole_from) : Fn P w K mg base 3 "is_main" ["thing"] sp_is_main := by
 obtain ⟨t_MOST_IN_MAIN, g_MOST_IN_MAIN⟩ := T.g_MOST_IN_MAIN
 refine F.fn sc_is_main (fun vs H Q E h => ?_) (fun f cdv A outer s H vs Q E hr h => ?_)
 ·exact len_is_main h
 refine ⟨_, (pss_cons (c_if (pt_not (c_val (c_call D_is_tuple_of (hr.mono (by decide)) rfl (pa3 (cx 0 (by rfl)) pe_int pe_int (by rfl)) (by decide) (by rfl) (by rfl)) (by intro _; rfl))) (pss_one (ps_ret pe_bl)) pss_nil) (pss_cons (ps_asg (cx 0 (by rfl)) (pgT K (n := 3) (pgs_cons (pgx 1 sc_is_main.nd (by rfl)) (pgs_cons (pgx 2 sc_is_main.nd (by rfl)) (pgs_cons (pgx 3 sc_is_main.nd (by rfl)) pgs_nil (by rfl)) (by rfl)) (by rfl)) (by rfl) (by rfl) (by rfl) (by rfl)) (by rfl) (by rfl) (by rfl)) (pss_one (ps_ret (c_andV (c_call D_is_whole_from (hr.mono (by decide)) rfl (pa3 (cx 2 (by rfl)) pe_int (pe_glob (v := .int 40) rfl g_MOST_IN_MAIN ⟨t_MOST_IN_MAIN, rfl⟩ (by decide)) (by rfl)) (by decide) (by rfl) (by rfl)) (c_andV (c_call D_is_whole_from (hr.mono (by decide)) rfl (pa3 (cx 3 (by rfl)) pe_int (cx 2 (by rfl)) (by rfl)) (by decide) (by rfl) (by rfl)) (pe_one (c_call D_is_whole_from (hr.mono (by decide)) rfl (pa3 (cx 1 (by rfl)) pe_int (cx 3 (by rfl)) (by rfl)) (by decide) (by rfl) (by rfl))))))))), ?_⟩
 unfold sp_is_main spLook at h
 split at h
 ·rename_i v
  obtain ⟨p, d, r, q⟩ := h
  refine ⟨p, d, r, fun b hb => ⟨fun c => ?_, fun c => ?_⟩⟩
  ·refine q false H ?_ (Same.refl _)
   have e : isTO d 3 3 = false := by rw [← hb]; simpa using c
   cases d <;> first | rfl | skip
   rename_i ds
   match ds, e with
   | [a, b, c], e => cases e
   | [], _ => rfl
   | [_], _ => rfl
   | [_, _], _ => rfl
   | _ :: _ :: _ :: _ :: _, _ => rfl
  ·have e : isTO d 3 3 = true := by rw [← hb]; simpa using c
   obtain ⟨ds, rfl⟩ := isTO_tup e
   obtain ⟨a, b, c', rfl⟩ := three e
   obtain ⟨l, xs, rfl, hl, rs⟩ := Rep.shape r
   obtain ⟨x, y, z, rfl, rx, ry, rz⟩ := Reps.three rs
   refine ⟨l, [x, y, z], rfl, SqT.of hl, rfl, x, [y, z], rfl, y, [z], rfl, z, [], rfl, rfl, p, b, ry, fun b1 e1 => ⟨fun c1 => ?_, fun c1 => ?_⟩⟩
   ·rw [c1] at e1
    cases b <;> first | cases e1 | skip
    rename_i hi
    unfold Rep at ry
    subst ry
    refine ⟨p, c', rz, fun b2 e2 => ⟨fun c2 => ?_, fun c2 => ?_⟩⟩
    ·rw [c2] at e2
     cases c' <;> first | cases e2 | skip
     rename_i st
     unfold Rep at rz
     subst rz
     refine ⟨p, a, rx, fun b3 e3 => ?_⟩
     exact q _ _ (by unfold isMain; dsimp only; rw [e3]; rw [← e1, ← e2]; rfl) (Same.refl _)
    ·exact q _ _ (by unfold isMain; dsimp only; rw [← e1, ← e2, c2]; rfl) (Same.refl _)
   ·exact q _ _ (by unfold isMain; dsimp only; rw [← e1, c1]; rfl) (Same.refl _)
 ·exact h.elim
theorem sc_are_boilers : FnScope ["thing"] ["thing"] (defScope s_are_boilers) := ⟨rfl, rfl, rfl, by decide +kernel, rfl, by decide +kernel, by decide +kernel⟩
theorem ok_are_boilers (F : Df K mg "are_boilers" s_are_boilers ["thing"]) (T : Tx mg) (D_is_make_and_coal : Fn P w K mg base 3 "is_make_and_coal" ["thing"] sp_is_make_and_coal) (D_is_tuple_of : Fn P w K mg base 1 "is_tuple_of" ["thing", "fewest", "most"] sp_is_tuple_of) : Fn P w K mg base 4 "are_boilers" ["thing"] sp_are_boilers := by
 obtain ⟨t_MOST_BOILERS, g_MOST_BOILERS⟩ := T.g_MOST_BOILERS
 refine F.fn sc_are_boilers (fun vs H Q E h => ?_) (fun f cdv A outer s H vs Q E hr h => ?_)
 ·exact len_are_boilers h
 refine ⟨_, (pss_one (ps_ret (c_andV (c_call D_is_tuple_of (hr.mono (by decide)) rfl (pa3 (cx 0 (by rfl)) pe_int (pe_glob (v := .int 4) rfl g_MOST_BOILERS ⟨t_MOST_BOILERS, rfl⟩ (by decide)) (by rfl)) (by decide) (by rfl) (by rfl)) (pe_one (pe_callB (call_all rfl) rfl T.b_all boot_all (pa1 (pe_comp ["part"] [none] rfl (piT K (cx 0 (by rfl)) (by rfl)) (BlockScope.of rfl) (fun _ _ _ _ => (pgx 0 (nd_of (by rfl)) (by rfl))) (fun _ _ _ _ => pts_nil) (fun _ _ _ _ => (c_call D_is_make_and_coal (hr.mono (by decide)) rfl (pa1 (cx 0 (by rfl)) (by rfl)) (by decide) (by rfl) (by rfl))) (by intro _; rfl)) (by rfl)) (by decide) (by decide) (by rfl) (by rfl)))))), ?_⟩
 unfold sp_are_boilers spLook at h
 split at h
 ·rename_i v
  obtain ⟨p, d, r, q⟩ := h
  refine ⟨p, d, r, fun b hb => ⟨fun c => ?_, fun c => ?_⟩⟩
  ·rw [c] at hb
   obtain ⟨ds, rfl⟩ := isTO_tup hb.symm
   obtain ⟨l, xs, rfl, hl, rs⟩ := Rep.shape r
   have hlen := rs.len
   have hsm : ds.length ≤ 4 := by
    have := hb.symm; unfold isTO at this; simp only [Bool.and_eq_true, decide_eq_true_eq] at this; omega
   refine ⟨l, rfl, ⟨xs, SqT.of hl⟩, walk_tup (xs := xs) (fun i ys H' => Same H H' ∧ ys = (ds.take i).map fun d => V.bl (isMC d)) (by omega) ⟨Same.refl _, rfl⟩ (fun i ys H' h => by rw [h.2, List.length_map, List.length_take]; omega) (fun i ys H' _ h => SqT.of (h.1 _ _ hl)) (fun i x ys H' hx h => ?_) fun ys H' h => ?_⟩
   ·obtain ⟨d, hd, rd⟩ := rs.got hx
    refine ⟨trivial, fun _ => ⟨p, d, Rep.ev (Ev.same h.1) d x rd, fun b H2 e s2 => ⟨h.1.trans s2, ?_⟩⟩, fun c => by cases c⟩
    rw [h.2, e, take_map _ hd]
   ·intro m hm
    refine ⟨m, ds.map isMC, rfl, ?_, ?_⟩
    ·rw [upd_same, h.2, ← hlen, List.take_length, List.map_map]; rfl
    ·refine q _ _ ?_ (h.1.trans (Same.new hm))
     unfold isBoilers; dsimp only; rw [← hb, List.all_map, Bool.true_and]; rfl
  ·refine q _ _ ?_ (Same.refl _)
   have e : isTO d 1 4 = false := by rw [← hb, c]
   unfold isBoilers
   cases d <;> first | rfl | skip
   dsimp only; rw [e]; rfl
 ·exact h.elim
theorem sc_are_engines : FnScope ["thing"] ["thing"] (defScope s_are_engines) := ⟨rfl, rfl, rfl, by decide +kernel, rfl, by decide +kernel, by decide +kernel⟩
theorem ok_are_engines (F : Df K mg "are_engines" s_are_engines ["thing"]) (T : Tx mg) (D_is_engine : Fn P w K mg base 3 "is_engine" ["thing"] sp_is_engine) (D_is_tuple_of : Fn P w K mg base 1 "is_tuple_of" ["thing", "fewest", "most"] sp_is_tuple_of) : Fn P w K mg base 4 "are_engines" ["thing"] sp_are_engines := by
 obtain ⟨t_MOST_ENGINES, g_MOST_ENGINES⟩ := T.g_MOST_ENGINES
 refine F.fn sc_are_engines (fun vs H Q E h => ?_) (fun f cdv A outer s H vs Q E hr h => ?_)
 ·exact len_are_engines h
 refine ⟨_, (pss_one (ps_ret (c_andV (c_call D_is_tuple_of (hr.mono (by decide)) rfl (pa3 (cx 0 (by rfl)) pe_int (pe_glob (v := .int 4) rfl g_MOST_ENGINES ⟨t_MOST_ENGINES, rfl⟩ (by decide)) (by rfl)) (by decide) (by rfl) (by rfl)) (pe_one (pe_callB (call_all rfl) rfl T.b_all boot_all (pa1 (pe_comp ["part"] [none] rfl (piT K (cx 0 (by rfl)) (by rfl)) (BlockScope.of rfl) (fun _ _ _ _ => (pgx 0 (nd_of (by rfl)) (by rfl))) (fun _ _ _ _ => pts_nil) (fun _ _ _ _ => (c_call D_is_engine (hr.mono (by decide)) rfl (pa1 (cx 0 (by rfl)) (by rfl)) (by decide) (by rfl) (by rfl))) (by intro _; rfl)) (by rfl)) (by decide) (by decide) (by rfl) (by rfl)))))), ?_⟩
 unfold sp_are_engines spLook at h
 split at h
 ·rename_i v
  obtain ⟨p, d, r, q⟩ := h
  refine ⟨p, d, r, fun b hb => ⟨fun c => ?_, fun c => ?_⟩⟩
  ·rw [c] at hb
   obtain ⟨ds, rfl⟩ := isTO_tup hb.symm
   obtain ⟨l, xs, rfl, hl, rs⟩ := Rep.shape r
   have hlen := rs.len
   have hsm : ds.length ≤ 4 := by
    have := hb.symm; unfold isTO at this; simp only [Bool.and_eq_true, decide_eq_true_eq] at this; omega
   refine ⟨l, rfl, ⟨xs, SqT.of hl⟩, walk_tup (xs := xs) (fun i ys H' => Same H H' ∧ ys = (ds.take i).map fun d => V.bl (isEng d)) (by omega) ⟨Same.refl _, rfl⟩ (fun i ys H' h => by rw [h.2, List.length_map, List.length_take]; omega) (fun i ys H' _ h => SqT.of (h.1 _ _ hl)) (fun i x ys H' hx h => ?_) fun ys H' h => ?_⟩
   ·obtain ⟨d, hd, rd⟩ := rs.got hx
    refine ⟨trivial, fun _ => ⟨p, d, Rep.ev (Ev.same h.1) d x rd, fun b H2 e s2 => ⟨h.1.trans s2, ?_⟩⟩, fun c => by cases c⟩
    rw [h.2, e, take_map _ hd]
   ·intro m hm
    refine ⟨m, ds.map isEng, rfl, ?_, ?_⟩
    ·rw [upd_same, h.2, ← hlen, List.take_length, List.map_map]; rfl
    ·refine q _ _ ?_ (h.1.trans (Same.new hm))
     unfold isEngines; dsimp only; rw [← hb, List.all_map, Bool.true_and]; rfl
  ·refine q _ _ ?_ (Same.refl _)
   have e : isTO d 0 4 = false := by rw [← hb, c]
   unfold isEngines
   cases d <;> first | rfl | skip
   dsimp only; rw [e]; rfl
 ·exact h.elim
theorem sc_is_plant : FnScope ["thing", "boilers", "engines", "main"] ["thing"] (defScope s_is_plant) := ⟨rfl, rfl, rfl, by decide +kernel, rfl, by decide +kernel, by decide +kernel⟩
theorem ok_is_plant (F : Df K mg "is_plant" s_is_plant ["thing"]) (T : Tx mg) (D_are_boilers : Fn P w K mg base 4 "are_boilers" ["thing"] sp_are_boilers) (D_are_engines : Fn P w K mg base 4 "are_engines" ["thing"] sp_are_engines) (D_is_main : Fn P w K mg base 3 "is_main" ["thing"] sp_is_main) (D_is_tuple_of : Fn P w K mg base 1 "is_tuple_of" ["thing", "fewest", "most"] sp_is_tuple_of) : Fn P w K mg base 5 "is_plant" ["thing"] sp_is_plant := by
 refine F.fn sc_is_plant (fun vs H Q E h => ?_) (fun f cdv A outer s H vs Q E hr h => ?_)
 ·exact len_is_plant h
 refine ⟨_, (pss_cons (c_if (pt_not (c_val (c_call D_is_tuple_of (hr.mono (by decide)) rfl (pa3 (cx 0 (by rfl)) pe_int pe_int (by rfl)) (by decide) (by rfl) (by rfl)) (by intro _; rfl))) (pss_one (ps_ret pe_bl)) pss_nil) (pss_cons (ps_asg (cx 0 (by rfl)) (pgT K (n := 3) (pgs_cons (pgx 1 sc_is_plant.nd (by rfl)) (pgs_cons (pgx 2 sc_is_plant.nd (by rfl)) (pgs_cons (pgx 3 sc_is_plant.nd (by rfl)) pgs_nil (by rfl)) (by rfl)) (by rfl)) (by rfl) (by rfl) (by rfl) (by rfl)) (by rfl) (by rfl) (by rfl)) (pss_one (ps_ret (c_andV (c_call D_are_boilers (hr.mono (by decide)) rfl (pa1 (cx 1 (by rfl)) (by rfl)) (by decide) (by rfl) (by rfl)) (c_andV (c_call D_are_engines (hr.mono (by decide)) rfl (pa1 (cx 2 (by rfl)) (by rfl)) (by decide) (by rfl) (by rfl)) (pe_one (c_call D_is_main (hr.mono (by decide)) rfl (pa1 (cx 3 (by rfl)) (by rfl)) (by decide) (by rfl) (by rfl))))))))), ?_⟩
 unfold sp_is_plant spLook at h
 split at h
 ·rename_i v
  obtain ⟨p, d, r, q⟩ := h
  refine ⟨p, d, r, fun b hb => ⟨fun c => ?_, fun c => ?_⟩⟩
  ·refine q false H ?_ (Same.refl _)
   have e : isTO d 3 3 = false := by rw [← hb]; simpa using c
   cases d <;> first | rfl | skip
   rename_i ds
   match ds, e with
   | [a, b, c], e => cases e
   | [], _ => rfl
   | [_], _ => rfl
   | [_, _], _ => rfl
   | _ :: _ :: _ :: _ :: _, _ => rfl
  ·have e : isTO d 3 3 = true := by rw [← hb]; simpa using c
   obtain ⟨ds, rfl⟩ := isTO_tup e
   obtain ⟨a, b, c', rfl⟩ := three e
   obtain ⟨l, xs, rfl, hl, rs⟩ := Rep.shape r
   obtain ⟨x, y, z, rfl, rx, ry, rz⟩ := Reps.three rs
   refine ⟨l, [x, y, z], rfl, SqT.of hl, rfl, x, [y, z], rfl, y, [z], rfl, z, [], rfl, rfl, p, a, rx, fun b1 H1 e1 s1 => ⟨fun c => ⟨p, b, Rep.ev (Ev.same s1) _ _ ry, fun b2 H2 e2 s2 => ⟨fun c2 => ⟨p, c', Rep.ev (Ev.same (s1.trans s2)) _ _ rz, fun b3 H3 e3 s3 => ?_⟩, fun c2 => ?_⟩⟩, fun c => ?_⟩⟩
   ·exact q _ _ (by unfold isPlant; dsimp only; rw [e3, ← e1, ← e2, c, c2]; rfl) (s1.trans (s2.trans s3))
   ·exact q _ _ (by unfold isPlant; dsimp only; rw [← e1, ← e2, c, c2]; rfl) (s1.trans s2)
   ·exact q _ _ (by unfold isPlant; dsimp only; rw [← e1, c]; rfl) s1
 ·exact h.elim
end
end MF

end

section
namespace MF
open PySem PySem.Spec PyProof.Rows L2
def Pen (p : Addr) (H : Hp) : Prop := ∃ l f : Int, H p = some (.lst [.int l, .int f])
theorem Pen.new {p a : Addr} {H : Hp} {o : HO} (h : Pen p H) (n : H a = none) : Pen p (upd H a o) := by
 obtain ⟨l, f, e⟩ := h; exact ⟨l, f, by rw [upd_ne (ne_of_none e n)]; exact e⟩
theorem Pen.ne {p a : Addr} {H : Hp} (h : Pen p H) (n : H a = none) : a ≠ p := by obtain ⟨l, f, e⟩ := h; exact Ne.symm (ne_of_none e n)
theorem Pen.same {p : Addr} {H H' : Hp} (h : Pen p H) (s : Same H H') : Pen p H' := by obtain ⟨l, f, e⟩ := h; exact ⟨l, f, s _ _ e⟩
def sp__law_cell (K : PySem.W.Frag) : Sp := fun vs H Q _ => match vs with | [.ref a, .int k] => ∃ ns : List Int, SqL K H a (ns.map V.int) ∧ 0 ≤ k ∧ ∀ i, Q (.int i) H | _ => False
def sp__law_pen : Sp := fun vs H Q _ => match vs with | [.int c] => ∀ p l f, H p = none → Q (.ref p) (upd H p (.lst [.int l, .int f])) | _ => False
def sp__law_draw : Sp := fun vs H Q _ => match vs with | [.ref p, .int m] => Pen p H ∧ 0 < m ∧ m < 1000 ∧ ∀ g H', 0 ≤ g → g < m → Ev p H H' → Pen p H' → Q (.int g) H' | _ => False
theorem pick {ns : List Int} {g : Int} (h0 : 0 ≤ g) (h1 : g < ns.length) : ∃ v ∈ ns, atI (ns.map V.int) g = some (.int v) := by
 have hk : g.toNat < ns.length := by omega
 have e : g = ((g.toNat : Nat) : Int) := by omega
 refine ⟨ns[g.toNat], List.getElem_mem hk, ?_⟩
 have q : atI (ns.map V.int) ((g.toNat : Nat) : Int) = some (.int ns[g.toNat]) := atI_nat (by simp [hk])
 rw [← e] at q
 exact q
section
variable {P : Program} {w : World} {K : PySem.W.Frag} {mg : Str → Option Value} {base : Heap}
theorem sc__law_cell : FnScope ["_law_script", "_law_k"] ["_law_script", "_law_k"] (defScope s__law_cell) := ⟨rfl, rfl, rfl, by decide +kernel, rfl, by decide +kernel, by decide +kernel⟩
theorem ok__law_cell (F : Df K mg "_law_cell" s__law_cell ["_law_script", "_law_k"]) (T : Tx mg)  : Fn P w K mg base 1 "_law_cell" ["_law_script", "_law_k"] (sp__law_cell K) := by
 refine F.fn sc__law_cell (fun vs H Q E h => ?_) (fun f cdv A outer s H vs Q E hr h => ?_)
 ·unfold sp__law_cell at h; split at h; rfl; exact h.elim
 refine ⟨_, (pss_cons (c_if (c_cmpT o_lt (cx 1 (by rfl)) (pe_callB (lenS K (by rfl)) rfl T.b_len PySem.boot_len (pa1 (cx 0 (by rfl)) (by rfl)) (by decide) (by decide) (by rfl) (by rfl)) (nomark _)) (pss_one (ps_ret (pe_ix (ixL K (by rfl)) (cx 0 (by rfl)) (cx 1 (by rfl)) (fun _ _ => rfl)))) pss_nil) (pss_one (ps_ret pe_int))), ?_⟩
 unfold sp__law_cell at h
 split at h
 ·rename_i a k
  obtain ⟨ns, hs, h0, q⟩ := h
  refine ⟨a, _, rfl, .inl hs, ⟨fun c => ?_, fun c => q 0⟩⟩
  have c' : k < (ns.length : Int) := by have := of_decide_eq_true c; simpa using this
  obtain ⟨v, _, e⟩ := pick h0 c'
  exact ⟨a, _, k, .int v, rfl, rfl, hs, e, q v⟩
 ·exact h.elim
theorem sc__law_pen : FnScope ["_law_cell_here", "_law_left"] ["_law_cell_here"] (defScope s__law_pen) := ⟨rfl, rfl, rfl, by decide +kernel, rfl, by decide +kernel, by decide +kernel⟩
theorem ok__law_pen (F : Df K mg "_law_pen" s__law_pen ["_law_cell_here"]) (T : Tx mg)  : Fn P w K mg base 1 "_law_pen" ["_law_cell_here"] sp__law_pen := by
 refine F.fn sc__law_pen (fun vs H Q E h => ?_) (fun f cdv A outer s H vs Q E hr h => ?_)
 ·unfold sp__law_pen at h; split at h; rfl; exact h.elim
 refine ⟨_, (pss_cons (ps_set (i := 1) sc__law_pen.nd rfl (loc_of (by rfl)) (pe_callB (call_max2 rfl) rfl T.b_max boot_max (pa2 (cx 0 (by rfl)) (pe_op o_sub pe_int (cx 0 (by rfl))) (by rfl)) (by decide) (by decide) (by rfl) (by rfl)) (by rfl) (fl_of (by rfl))) (pss_one (ps_ret (c_lst (pa2 (cx 1 (by rfl)) (pe_callTy call_int1 rfl T.b_int L2.boot_int (pa1 (pe_cmpR o_ge (cx 1 (by rfl)) (pe_op o_pow pe_int pe_int) (nomark _)) (by rfl)) (by decide) (by decide) (by rfl) (by rfl)) (by rfl)))))), ?_⟩
 unfold sp__law_pen at h
 split at h
 ·rename_i c
  refine ⟨c, 0 - c, rfl, ?_⟩
  exact ⟨⟨by decide, by decide, by decide⟩, .inr ⟨_, rfl, fun p hp => h p _ _ hp⟩⟩
 ·exact h.elim
theorem sc__law_draw : FnScope ["_law_pen_here", "_law_many", "_law_left", "_law_got", "_law_stir"] ["_law_pen_here", "_law_many"] (defScope s__law_draw) := ⟨rfl, rfl, rfl, by decide +kernel, rfl, by decide +kernel, by decide +kernel⟩
theorem ok__law_draw (F : Df K mg "_law_draw" s__law_draw ["_law_pen_here", "_law_many"]) (T : Tx mg)  : Fn P w K mg base 1 "_law_draw" ["_law_pen_here", "_law_many"] sp__law_draw := by
 refine F.fn sc__law_draw (fun vs H Q E h => ?_) (fun f cdv A outer s H vs Q E hr h => ?_)
 ·unfold sp__law_draw at h; split at h; rfl; exact h.elim
 refine ⟨_, (pss_cons (c_if (c_cmpT op_eq (pe_ix (ixL K (by rfl)) (cx 0 (by rfl)) pe_int (fun _ _ => rfl)) pe_int (nomark _)) (pss_cons (ps_asg (pe_callB call_divmod rfl T.b_divmod boot_divmod (pa2 (pe_ix (ixL K (by rfl)) (cx 0 (by rfl)) pe_int (fun _ _ => rfl)) (cx 1 (by rfl)) (by rfl)) (by decide) (by decide) (by rfl) (by rfl)) (pgT K (n := 2) (pgs_cons (pgx 2 sc__law_draw.nd (by rfl)) (pgs_cons (pgx 3 sc__law_draw.nd (by rfl)) pgs_nil (by rfl)) (by rfl)) (by rfl) (by rfl) (by rfl) (by rfl)) (by rfl) (by rfl) (by rfl)) (pss_cons (ps_asg (cx 2 (by rfl)) (pg_sub (cx 0 (by rfl)) pe_int set_list (by intro _; rfl)) (by rfl) (by rfl) (by rfl)) (pss_one (ps_ret (cx 3 (by rfl)))))) pss_nil) (pss_cons (ps_set (i := 4) sc__law_draw.nd rfl (loc_of (by rfl)) (pe_op o_mod (pe_op o_mul (pe_op o_add (pe_op o_mod (pe_ix (ixL K (by rfl)) (cx 0 (by rfl)) pe_int (fun _ _ => rfl)) pe_int) pe_int) pe_int) pe_int) (by rfl) (fl_of (by rfl))) (pss_cons (ps_set (i := 4) sc__law_draw.nd rfl (loc_of (by rfl)) (pe_op o_mod (pe_op o_add (pe_op o_mul (cx 4 (by rfl)) (cx 4 (by rfl))) pe_int) pe_int) (by rfl) (fl_of (by rfl))) (pss_cons (ps_asg (pe_op o_mod (pe_op o_add (pe_op o_mul (cx 4 (by rfl)) pe_int) pe_int) pe_int) (pg_sub (cx 0 (by rfl)) pe_int set_list (by intro _; rfl)) (by rfl) (by rfl) (by rfl)) (pss_one (ps_ret (pe_op o_mod (pe_op o_fdiv (pe_ix (ixL K (by rfl)) (cx 0 (by rfl)) pe_int (fun _ _ => rfl)) pe_int) (cx 1 (by rfl))))))))), ?_⟩
 unfold sp__law_draw at h
 split at h
 ·rename_i p m
  obtain ⟨⟨l, f, hp⟩, h0, h1, q⟩ := h
  refine ⟨p, [.int l, .int f], 1, .int f, rfl, rfl, SqL.of hp, rfl, rfl, ⟨fun c => ?_, fun c => ?_⟩⟩
  ·refine ⟨p, [.int l, .int f], 0, .int l, rfl, rfl, SqL.of hp, rfl, l, m, rfl, ⟨h0, by omega⟩, fun t ht => ?_⟩
   have hpt : p ≠ t := ne_of_none hp ht
   have hp' : upd H t (.tup [.int (l / m), .int (l % m)]) p = some (.lst [.int l, .int f]) := by rw [upd_ne hpt]; exact hp
   refine ⟨t, [.int (l / m), .int (l % m)], rfl, SqT.of upd_same, rfl, _, _, rfl, _, _, rfl, rfl, ?_⟩
   refine ⟨p, [.int l, .int f], 0, 0, rfl, rfl, hp', rfl, ?_⟩
   exact q _ _ (Int.emod_nonneg _ (by omega)) (Int.emod_lt_of_pos _ h0) ((Ev.new ht).trans (Ev.pen hp')) ⟨l / m, f, upd_same⟩
  ·have b1 : ∀ x : Int, -(2 ^ 64) < x % 2147483629 := fun x => Int.lt_of_lt_of_le (by decide) (Int.emod_nonneg x (by decide))
   have b2 : ∀ x : Int, x % 2147483629 < 2 ^ 64 := fun x => Int.lt_trans (Int.emod_lt_of_pos x (by decide)) (by decide)
   have g1 : (0 : Int) < 2147483647 := by decide
   have g2 : (0 : Int) < 2147483629 := by decide
   have g3 : (0 : Int) < 2147483587 := by decide
   have c1 : -(2 ^ 64) < (69621 : Int) ∧ (69621 : Int) < 2 ^ 64 := by decide
   have c2 : -(2 ^ 64) < (48271 : Int) ∧ (48271 : Int) < 2 ^ 64 := by decide
   refine ⟨p, [.int l, .int f], 0, .int l, rfl, rfl, SqL.of hp, rfl, g1, .inr c1, g2, .inl ⟨b1 _, b2 _⟩, g3, .inr c2, g2, p, [.int l, .int f], 0, 0, rfl, rfl, hp, rfl, ?_⟩
   refine ⟨p, _, 0, _, rfl, rfl, SqL.of upd_same, rfl, ⟨by decide, by decide⟩, h0, ?_⟩
   exact q _ _ (Int.emod_nonneg _ (by omega)) (Int.emod_lt_of_pos _ h0) (Ev.pen hp) ⟨_, f, upd_same⟩
 ·exact h.elim
end
end MF

end

section
namespace MF
open PySem PySem.Spec PyProof.Rows L2
mutual
def noMut : PyData → Bool
 | .list _ => false | .dict _ => false | .tuple ds => noMuts ds | _ => true
def noMuts : List PyData → Bool
 | [] => true
 | d :: ds => noMut d && noMuts ds
end
def TEv (H H' : Hp) : Prop := ∀ a xs, H a = some (.tup xs) → H' a = some (.tup xs)
theorem TEv.trans {H H1 H2 : Hp} (a : TEv H H1) (b : TEv H1 H2) : TEv H H2 := fun c o h => b c o (a c o h)
theorem _root_.L2.Ev.tev {p : Addr} {H H' : Hp} (h : Ev p H H') : TEv H H' := fun a xs q => h.tup q
theorem TEv.upd {H : Hp} {a : Addr} {ys zs : List V} (h : H a = some (.lst ys)) : TEv H (upd H a (.lst zs)) := fun b xs q => by
 rw [upd_ne (ne_of q h (by intro z; cases z))]; exact q
mutual
theorem Rep.tev {p p' : Addr} {H H' : Hp} (h : TEv H H') : ∀ (d : PyData) (v : V), noMut d = true → Rep p H d v → Rep p' H' d v
 | .none, v, _, q => q
 | .bool _, v, _, q => q
 | .int _, v, _, q => q
 | .str _, v, _, q => q
 | .tuple ds, v, n, q => by
  unfold Rep at q ⊢
  obtain ⟨a, xs, e, r, z⟩ := q
  exact ⟨a, xs, e, h _ _ r, Reps.tev h ds xs (by unfold noMut at n; exact n) z⟩
 | .list ds, v, n, q => by unfold noMut at n; cases n
 | .dict kvs, v, n, q => by unfold noMut at n; cases n
theorem Reps.tev {p p' : Addr} {H H' : Hp} (h : TEv H H') : ∀ (ds : List PyData) (xs : List V), noMuts ds = true → Reps p H ds xs → Reps p' H' ds xs
 | [], xs, _, q => by unfold Reps at q ⊢; exact q
 | d :: ds, xs, n, q => by
  unfold Reps at q ⊢
  unfold noMuts at n
  obtain ⟨n1, n2⟩ := Bool.and_eq_true_iff.mp n
  obtain ⟨x, r, e, z, zs⟩ := q
  exact ⟨x, r, e, Rep.tev h d x n1 z, Reps.tev h ds r n2 zs⟩
end
theorem noMuts_all {ds : List PyData} (h : ∀ d ∈ ds, noMut d = true) : noMuts ds = true := by
 induction ds with
 | nil => rfl
 | cons d ds ih => unfold noMuts; rw [h d List.mem_cons_self, ih fun x hx => h x (List.mem_cons_of_mem _ hx)]; rfl
theorem _root_.L2.Ev.own {p b : Addr} {H H' : Hp} {o : HO} (h : Ev p H H') (n : H b = none) : Ev p H (upd H' b o) := fun x u q => (h x u q).elim .inl fun r => .inr (by rw [upd_ne (ne_of_none q n)]; exact r)
def GoodB (d : PyData) : Prop := ∃ m c : Int, d = .tuple [.int m, .int c] ∧ 1 ≤ m ∧ m ≤ 9 ∧ 1 ≤ c ∧ c ≤ 9
def GoodE (d : PyData) : Prop := ∃ a f e : Int, d = .tuple [.int a, .int f, .int e] ∧ 1 ≤ a ∧ a ≤ 9 ∧ 0 ≤ f ∧ f ≤ 7 ∧ 1 ≤ e ∧ e ≤ 8
theorem GoodB.nm {d : PyData} (h : GoodB d) : noMut d = true := by obtain ⟨m, c, rfl, _⟩ := h; rfl
theorem GoodE.nm {d : PyData} (h : GoodE d) : noMut d = true := by obtain ⟨m, c, e, rfl, _⟩ := h; rfl
structure GoodP (bs es : List PyData) (lo hi st : Int) : Prop where
 b : ∀ d ∈ bs, GoodB d
 b1 : 1 ≤ bs.length
 b4 : bs.length ≤ 4
 e : ∀ d ∈ es, GoodE d
 e4 : es.length ≤ 4
 lo0 : 0 ≤ lo
 ls : lo ≤ st
 sh : st ≤ hi
 h4 : hi ≤ 40
def plantD (bs es : List PyData) (lo hi st : Int) : PyData := .tuple [.tuple bs, .tuple es, .tuple [.int lo, .int hi, .int st]]
def sp__law_plant : Sp := fun vs H Q _ => match vs with | [.ref p] => Pen p H ∧ ∀ v H' bs es lo hi st, GoodP bs es lo hi st → Rep p H' (plantD bs es lo hi st) v → Ev p H H' → Pen p H' → Q v H' | _ => False
structure Filled (Good : PyData → Prop) (p b : Addr) (H H2 : Hp) (i : Nat) : Prop where
 ev : Ev p H H2
 pen : Pen p H2
 ex : ∃ xs ds, H2 b = some (.lst xs) ∧ Reps p H2 ds xs ∧ (∀ d ∈ ds, Good d) ∧ ds.length = i
theorem Filled.step {Good : PyData → Prop} {p b t : Addr} {H H2 H3 : Hp} {i : Nat} {d : PyData} {ys xs : List V} {ds : List PyData} (nm : ∀ d, Good d → noMut d = true) (hx : H2 b = some (.lst xs)) (rs : Reps p H2 ds xs) (gd : ∀ d ∈ ds, Good d) (hl : ds.length = i) (e3 : Ev p H2 H3) (nb : b ≠ p) (hb : H b = none) (ev : Ev p H H3) (pn : Pen p H3)
  (ht : H3 t = none) (rd : Rep p (upd H3 t (.tup ys)) d (.ref t)) (g : Good d) : Filled Good p b H (upd (upd H3 t (.tup ys)) b (.lst (xs ++ [.ref t]))) (i + 1) := by
 have hb3 : H3 b = some (.lst xs) := e3.lst hx nb
 have hbt : b ≠ t := ne_of_none hb3 ht
 have hbt' : upd H3 t (.tup ys) b = some (.lst xs) := by rw [upd_ne hbt]; exact hb3
 have tv : TEv (upd H3 t (.tup ys)) (upd (upd H3 t (.tup ys)) b (.lst (xs ++ [.ref t]))) := TEv.upd hbt'
 have pn2 : Pen p (upd H3 t (.tup ys)) := pn.new ht
 refine ⟨(ev.trans (Ev.new ht)).own hb, ?_, xs ++ [.ref t], ds ++ [d], upd_same, ?_, ?_, by simp [hl]⟩
 ·obtain ⟨l, f, e⟩ := pn2
  exact ⟨l, f, by rw [upd_ne (Ne.symm nb)]; exact e⟩
 ·exact (Reps.tev ((e3.trans (Ev.new ht)).tev.trans tv) ds xs (noMuts_all fun d h => nm d (gd d h)) rs).append (.cons (Rep.tev tv d _ (nm d g) rd) .nil)
 ·intro x hx
  rcases List.mem_append.mp hx with h | h
  ·exact gd x h
  ·rw [List.mem_singleton.mp h]; exact g
theorem Filled.done {Good : PyData → Prop} {p b : Addr} {H H2 H3 : Hp} {i : Nat} (f : Filled Good p b H H2 i) (nb : b ≠ p) (e3 : Ev p H2 H3) : ∃ xs ds, H3 b = some (.lst xs) ∧ Reps p H3 ds xs ∧ (∀ d ∈ ds, Good d) ∧ ds.length = i := by
 obtain ⟨xs, ds, h1, h2, h3, h4⟩ := f.ex
 exact ⟨xs, ds, e3.lst h1 nb, Reps.ev e3 ds xs h2, h3, h4⟩
theorem Filled.other {Good : PyData → Prop} {p b e t : Addr} {H H4 H7 : Hp} {i : Nat} {ys zs ws : List V} (nm : ∀ d, Good d → noMut d = true) (f : Filled Good p b H H4 i) (e47 : Ev p H4 H7) (ht : H7 t = none) (he : H7 e = some (.lst ys)) (hHe : H e = none) (nb : b ≠ p) (neb : b ≠ e) (ne : e ≠ p) (pn : Pen p H7) :
  Filled Good p b H (upd (upd H7 t (.tup zs)) e (.lst ws)) i := by
 obtain ⟨xs, ds, h1, h2, h3, h4⟩ := f.ex
 have h7 : H7 b = some (.lst xs) := e47.lst h1 nb
 have het : upd H7 t (.tup zs) e = some (.lst ys) := by rw [upd_ne (ne_of_none he ht)]; exact he
 refine ⟨((f.ev.trans e47).trans (Ev.new ht)).own hHe, ?_, xs, ds, ?_, ?_, h3, h4⟩
 ·obtain ⟨l, g, z⟩ := pn.new (o := .tup zs) ht
  exact ⟨l, g, by rw [upd_ne (Ne.symm ne)]; exact z⟩
 ·rw [upd_ne neb, upd_ne (ne_of_none h7 ht)]; exact h7
 ·exact Reps.tev ((e47.trans (Ev.new ht)).tev.trans (TEv.upd het)) ds xs (noMuts_all fun d h => nm d (h3 d h)) h2
theorem small63 {n : Nat} (h : n ≤ 1000) : n < sizeLine := Nat.lt_of_le_of_lt h (by decide)
section
variable {P : Program} {w : World} {K : PySem.W.Frag} {mg : Str → Option Value} {base : Heap}
theorem sc__law_plant : FnScope ["_law_pen_here", "_law_boilers", "_law_turn", "_law_make", "_law_engines", "_law_low", "_law_high"] ["_law_pen_here"] (defScope s__law_plant) := ⟨rfl, rfl, rfl, by decide +kernel, rfl, by decide +kernel, by decide +kernel⟩
theorem ok__law_plant (F : Df K mg "_law_plant" s__law_plant ["_law_pen_here"]) (T : Tx mg) (D__law_draw : Fn P w K mg base 1 "_law_draw" ["_law_pen_here", "_law_many"] sp__law_draw) : Fn P w K mg base 2 "_law_plant" ["_law_pen_here"] sp__law_plant := by
 refine F.fn sc__law_plant (fun vs H Q E h => ?_) (fun f cdv A outer s H vs Q E hr h => ?_)
 ·unfold sp__law_plant at h; split at h; rfl; exact h.elim
 refine ⟨_, (pss_cons (ps_set (i := 1) sc__law_plant.nd rfl (loc_of (by rfl)) (c_lst pa_nil) (by rfl) (fl_of (by rfl))) (pss_cons (ps_for PassesOwn.never rfl (pi_range1 rfl T.b_range (pa1 (pe_op o_add pe_int (c_call D__law_draw (hr.mono (by decide)) rfl (pa2 (cx 0 (by rfl)) pe_int (by rfl)) (by decide) (by rfl) (by rfl))) (by rfl)) (by rfl)) (pgx 2 sc__law_plant.nd (by rfl)) (pss_cons (ps_set (i := 3) sc__law_plant.nd rfl (loc_of (by rfl)) (pe_ix (ixL K (by rfl)) (c_lst (pa3 pe_int pe_int (pe_op o_add pe_int (c_call D__law_draw (hr.mono (by decide)) rfl (pa2 (cx 0 (by rfl)) pe_int (by rfl)) (by decide) (by rfl) (by rfl))) (by rfl))) (c_call D__law_draw (hr.mono (by decide)) rfl (pa2 (cx 0 (by rfl)) pe_int (by rfl)) (by decide) (by rfl) (by rfl)) (fun _ _ => rfl)) (by rfl) (fl_of (by rfl))) (pss_one (ps_expr (pe_bm PySem.F.plainAttrs_list PySem.F.slot_list_append PySem.F.type_list_append mt_append (cx 1 (by rfl)) (pa1 (c_tup (pa2 (cx 3 (by rfl)) (pe_op o_add pe_int (c_call D__law_draw (hr.mono (by decide)) rfl (pa2 (cx 0 (by rfl)) (pe_ix (ixL K (by rfl)) (c_lst (pa2 pe_int pe_int (by rfl))) (c_call D__law_draw (hr.mono (by decide)) rfl (pa2 (cx 0 (by rfl)) pe_int (by rfl)) (by decide) (by rfl) (by rfl)) (fun _ _ => rfl)) (by rfl)) (by decide) (by rfl) (by rfl))) (by rfl))) (by rfl)) (by rfl) (by rfl) (by rfl) (by rfl) (by rfl)) (by rfl)))) (by intro _; rfl)) (pss_cons (ps_set (i := 4) sc__law_plant.nd rfl (loc_of (by rfl)) (c_lst pa_nil) (by rfl) (fl_of (by rfl))) (pss_cons (ps_for PassesOwn.never rfl (pi_range1 rfl T.b_range (pa1 (c_call D__law_draw (hr.mono (by decide)) rfl (pa2 (cx 0 (by rfl)) pe_int (by rfl)) (by decide) (by rfl) (by rfl)) (by rfl)) (by rfl)) (pgx 2 sc__law_plant.nd (by rfl)) (pss_one (ps_expr (pe_bm PySem.F.plainAttrs_list PySem.F.slot_list_append PySem.F.type_list_append mt_append (cx 4 (by rfl)) (pa1 (c_tup (pa3 (pe_op o_add pe_int (c_call D__law_draw (hr.mono (by decide)) rfl (pa2 (cx 0 (by rfl)) pe_int (by rfl)) (by decide) (by rfl) (by rfl))) (c_call D__law_draw (hr.mono (by decide)) rfl (pa2 (cx 0 (by rfl)) pe_int (by rfl)) (by decide) (by rfl) (by rfl)) (pe_op o_add pe_int (c_call D__law_draw (hr.mono (by decide)) rfl (pa2 (cx 0 (by rfl)) pe_int (by rfl)) (by decide) (by rfl) (by rfl))) (by rfl))) (by rfl)) (by rfl) (by rfl) (by rfl) (by rfl) (by rfl)) (by rfl))) (by intro _; rfl)) (pss_cons (ps_set (i := 5) sc__law_plant.nd rfl (loc_of (by rfl)) (pe_ix (ixL K (by rfl)) (c_lst (pa2 pe_int (c_call D__law_draw (hr.mono (by decide)) rfl (pa2 (cx 0 (by rfl)) pe_int (by rfl)) (by decide) (by rfl) (by rfl)) (by rfl))) (c_call D__law_draw (hr.mono (by decide)) rfl (pa2 (cx 0 (by rfl)) pe_int (by rfl)) (by decide) (by rfl) (by rfl)) (fun _ _ => rfl)) (by rfl) (fl_of (by rfl))) (pss_cons (ps_set (i := 6) sc__law_plant.nd rfl (loc_of (by rfl)) (pe_callB (call_min2 rfl) rfl T.b_min boot_min (pa2 pe_int (pe_op o_add (cx 5 (by rfl)) (pe_ix (ixL K (by rfl)) (c_lst (pa_cons pe_int (pa4 pe_int pe_int pe_int (c_call D__law_draw (hr.mono (by decide)) rfl (pa2 (cx 0 (by rfl)) pe_int (by rfl)) (by decide) (by rfl) (by rfl)) (by rfl)) (by rfl))) (c_call D__law_draw (hr.mono (by decide)) rfl (pa2 (cx 0 (by rfl)) pe_int (by rfl)) (by decide) (by rfl) (by rfl)) (fun _ _ => rfl))) (by rfl)) (by decide) (by decide) (by rfl) (by rfl)) (by rfl) (fl_of (by rfl))) (pss_one (ps_ret (c_tup (pa3 (pe_callTy (tupOf K (by rfl)) rfl T.b_tuple boot_tuple' (pa1 (cx 1 (by rfl)) (by rfl)) (by decide) (by decide) (by rfl) (by rfl)) (pe_callTy (tupOf K (by rfl)) rfl T.b_tuple boot_tuple' (pa1 (cx 4 (by rfl)) (by rfl)) (by decide) (by decide) (by rfl) (by rfl)) (c_tup (pa3 (cx 5 (by rfl)) (cx 6 (by rfl)) (pe_op o_add (cx 5 (by rfl)) (c_call D__law_draw (hr.mono (by decide)) rfl (pa2 (cx 0 (by rfl)) (pe_op o_add (pe_op o_sub (cx 6 (by rfl)) (cx 5 (by rfl))) pe_int) (by rfl)) (by decide) (by rfl) (by rfl))) (by rfl))) (by rfl))))))))))), ?_⟩
 unfold sp__law_plant at h
 split at h
 ·rename_i p
  obtain ⟨pn, q⟩ := h
  refine fun b hb => ?_
  have nb : b ≠ p := pn.ne hb
  refine ⟨pn.new hb, by decide, by decide, fun g1 H1 a1 b1 e1 pn1 => ?_⟩
  have ev1 : Ev p H H1 := (Ev.new hb).trans e1
  have hb1 : H1 b = some (.lst []) := e1.lst upd_same nb
  refine ⟨1 + g1, rfl, by omega, by omega, for_range (n := (1 + g1).toNat) (fun i σ H2 => ∃ t m, σ = [some (.ref p), some (.ref b), t, m, none, none, none] ∧ Filled GoodB p b H H2 i)
   ⟨none, none, rfl, ev1, pn1, [], [], hb1, .nil, (fun _ h => nomatch h), rfl⟩ (fun i σ H2 hi hP => ?_) fun σ H2 hP => ?_⟩
  ·obtain ⟨t, m, rfl, ev, pn2, xs, ds, hx, rs, gd, hl⟩ := hP
   refine ⟨pn2, by decide, by decide, fun g2 H3 a2 b2 e2 pn3 l1 hl1 => ⟨pn3.new hl1, by decide, by decide, fun g3 H4 a3 b3 e3 pn4 => ?_⟩⟩
   obtain ⟨v, hv, hat⟩ := pick (ns := [1, 9, 1 + g2]) a3 (by simpa using b3)
   have hb4 : H4 b = some (.lst xs) := e3.lst (by rw [upd_ne (ne_of_none (e2.lst hx nb) hl1)]; exact e2.lst hx nb) nb
   refine ⟨l1, _, g3, .int v, rfl, rfl, SqL.of (e3.lst upd_same (pn3.ne hl1)), hat, .inl ⟨rfl, _, SqL.of hb4⟩, fun l2 hl2 => ⟨pn4.new hl2, by decide, by decide, fun g4 H5 a4 b4 e4 pn5 => ?_⟩⟩
   obtain ⟨v2, hv2, hat2⟩ := pick (ns := [3, 9]) a4 (by simpa using b4)
   have hv2' : v2 = 3 ∨ v2 = 9 := by simpa using hv2
   refine ⟨l2, _, g4, .int v2, rfl, rfl, SqL.of (e4.lst upd_same (pn4.ne hl2)), hat2, pn5, by omega, by omega, fun g5 H6 a5 b5 e5 pn6 t1 ht1 => ?_⟩
   have e26 : Ev p H2 H6 := e2.trans ((Ev.new hl1).trans (e3.trans ((Ev.new hl2).trans (e4.trans e5))))
   have hv' : v = 1 ∨ v = 9 ∨ v = 1 + g2 := by simpa using hv
   refine ⟨b, xs, .ref t1, rfl, rfl, by rw [upd_ne (ne_of_none (e26.lst hx nb) ht1)]; exact e26.lst hx nb, small63 (by rw [← rs.len, hl]; omega), _, _, rfl, ?_⟩
   exact Filled.step (fun d h => h.nm) hx rs gd hl e26 nb hb (ev.trans e26) pn6 ht1 (Rep.tup upd_same (.cons Rep.int (.cons Rep.int .nil))) ⟨v, 1 + g5, rfl, by omega, by omega, by omega, by omega⟩
  obtain ⟨t, m, rfl, fb⟩ := hP
  refine fun e he => ?_
  have ne : e ≠ p := fb.pen.ne he
  have hne : H e = none := by
   cases z : H e with
   | none => rfl
   | some o => exact ((fb.ev e o z).elim (fun ⟨x, _⟩ => absurd x ne) fun x => by rw [x] at he; cases he)
  have neb : e ≠ b := by
   obtain ⟨xs, ds, h1, _⟩ := fb.ex
   exact Ne.symm (ne_of_none h1 he)
  refine ⟨fb.pen.new he, by decide, by decide, fun g6 H3 a6 b6 e6 pn3 => ?_⟩
  have fb3 : Filled GoodB p b H H3 (1 + g1).toNat := ⟨fb.ev.trans ((Ev.new he).trans e6), pn3, fb.done nb ((Ev.new he).trans e6)⟩
  refine ⟨g6, rfl, by omega, by omega, for_range (n := g6.toNat) (fun i σ H4 => ∃ t m, σ = [some (.ref p), some (.ref b), t, m, some (.ref e), none, none] ∧ Filled GoodB p b H H4 (1 + g1).toNat ∧ Filled GoodE p e H H4 i)
   ⟨_, _, rfl, fb3, fb3.ev, pn3, [], [], e6.lst upd_same ne, .nil, (fun _ h => nomatch h), rfl⟩ (fun i σ H4 hi hP => ?_) fun σ H4 hP => ?_⟩
  ·obtain ⟨t, m, rfl, fb4, ev, pn2, xs, ds, hx, rs, gd, hl⟩ := hP
   refine ⟨.inl ⟨rfl, _, SqL.of hx⟩, pn2, by decide, by decide, fun g7 H5 a7 b7 e7 pn5 => ⟨pn5, by decide, by decide, fun g8 H6 a8 b8 e8 pn6 => ⟨pn6, by decide, by decide, fun g9 H7 a9 b9 e9 pn7 t1 ht1 => ?_⟩⟩⟩
   have e47 : Ev p H4 H7 := e7.trans (e8.trans e9)
   have he7 := e47.lst hx ne
   refine ⟨e, xs, .ref t1, rfl, rfl, by rw [upd_ne (ne_of_none he7 ht1)]; exact he7, small63 (by rw [← rs.len, hl]; omega), _, _, rfl, ?_, ?_⟩
   ·exact Filled.other (fun d h => h.nm) fb4 e47 ht1 he7 hne nb (Ne.symm neb) ne pn7
   ·exact Filled.step (fun d h => h.nm) hx rs gd hl e47 ne hne (ev.trans e47) pn7 ht1 (Rep.tup upd_same (.cons Rep.int (.cons Rep.int (.cons Rep.int .nil)))) ⟨1 + g7, g8, 1 + g9, rfl, by omega, by omega, by omega, by omega, by omega, by omega⟩
  obtain ⟨t, m, rfl, fb4, fe4⟩ := hP
  have pn4 := fb4.pen
  refine ⟨pn4, by decide, by decide, fun g7 H5 a7 b7 e7 pn5 l1 hl1 => ⟨pn5.new hl1, by decide, by decide, fun g8 H6 a8 b8 e8 pn6 => ?_⟩⟩
  obtain ⟨low, hlow, hat⟩ := pick (ns := [0, g7]) a8 (by simpa using b8)
  have hlow' : low = 0 ∨ low = g7 := by simpa using hlow
  refine ⟨l1, _, g8, .int low, rfl, rfl, SqL.of (e8.lst upd_same (pn5.ne hl1)), hat, pn6, by decide, by decide, fun g9 H7 a9 b9 e9 pn7 l2 hl2 => ⟨pn7.new hl2, by decide, by decide, fun g10 H8 a10 b10 e10 pn8 => ?_⟩⟩
  obtain ⟨x, hx, hat2⟩ := pick (ns := [0, 3, 10, 40, g9]) a10 (by simpa using b10)
  have hx' : x = 0 ∨ x = 3 ∨ x = 10 ∨ x = 40 ∨ x = g9 := by simpa using hx
  refine ⟨l2, _, g10, .int x, rfl, rfl, SqL.of (e10.lst upd_same (pn7.ne hl2)), hat2, 40, low + x, rfl, ?_⟩
  have hhi : ∃ hi : Int, (if low + x < 40 then low + x else 40) = hi ∧ low ≤ hi ∧ hi ≤ 40 := by
   by_cases c : low + x < 40
   ·exact ⟨low + x, if_pos c, by omega, by omega⟩
   ·exact ⟨40, if_neg c, by omega, by omega⟩
  obtain ⟨hi, ehi, hi1, hi2⟩ := hhi
  rw [ehi]
  have e48 : Ev p H4 H8 := e7.trans ((Ev.new hl1).trans (e8.trans (e9.trans ((Ev.new hl2).trans e10))))
  obtain ⟨xs, bs, hb8, rb8, gb, lb⟩ := fb4.done nb e48
  obtain ⟨ys, es, he8, re8, ge, le⟩ := fe4.done ne e48
  refine ⟨b, xs, rfl, .inl ⟨SqL.of hb8, fun c1 hc1 => ⟨e, ys, rfl, .inl ⟨SqL.of (by rw [upd_ne (ne_of_none he8 hc1)]; exact he8), fun c2 hc2 => ⟨(pn8.new hc1).new hc2, by omega, by omega, fun g11 H9 a11 b11 e11 pn9 c3 hc3 c4 hc4 => ?_⟩⟩⟩⟩⟩
  have e89 : Ev p H8 (upd (upd H9 c3 (.tup [.int low, .int hi, .int (low + g11)])) c4 (.tup [.ref c1, .ref c2, .ref c3])) := (Ev.new hc1).trans ((Ev.new hc2).trans (e11.trans ((Ev.new hc3).trans (Ev.new hc4))))
  have t1 : upd (upd H9 c3 (.tup [.int low, .int hi, .int (low + g11)])) c4 (.tup [.ref c1, .ref c2, .ref c3]) c1 = some (.tup xs) :=
   ((Ev.new hc2).trans (e11.trans ((Ev.new hc3).trans (Ev.new hc4)))).tup upd_same
  have t2 : upd (upd H9 c3 (.tup [.int low, .int hi, .int (low + g11)])) c4 (.tup [.ref c1, .ref c2, .ref c3]) c2 = some (.tup ys) := (e11.trans ((Ev.new hc3).trans (Ev.new hc4))).tup upd_same
  have t3 : upd (upd H9 c3 (.tup [.int low, .int hi, .int (low + g11)])) c4 (.tup [.ref c1, .ref c2, .ref c3]) c3 = some (.tup [.int low, .int hi, .int (low + g11)]) := (Ev.new (p := p) hc4).tup upd_same
  refine q _ _ bs es low hi (low + g11) ⟨gb, by omega, by omega, ge, by omega, by omega, by omega, by omega, hi2⟩ ?_ (fb4.ev.trans (e48.trans e89)) ((pn9.new hc3).new hc4)
  exact Rep.tup upd_same (.cons (Rep.tup t1 (Reps.ev e89 _ _ rb8)) (.cons (Rep.tup t2 (Reps.ev e89 _ _ re8)) (.cons (Rep.tup t3 (.cons Rep.int (.cons Rep.int (.cons Rep.int .nil)))) .nil)))
 ·exact h.elim
end
end MF

end

section
namespace MF
open PySem PySem.Spec PyProof.Rows L2
theorem isWF_ok {i lo hi : Int} (h1 : lo ≤ i) (h2 : i ≤ hi) : isWF (.int i) lo hi = true := by unfold isWF; dsimp only; rw [decide_eq_true h1, decide_eq_true h2]; rfl
theorem isTO_ok {ds : List PyData} {lo hi : Int} (h1 : lo ≤ (ds.length : Int)) (h2 : (ds.length : Int) ≤ hi) : isTO (.tuple ds) lo hi = true := by unfold isTO; dsimp only; rw [decide_eq_true h1, decide_eq_true h2]; rfl
theorem isPlant_ok {P : PL} (h : P.ok) : isPlant P.d = true := by
 have b1 := h.b1
 have b4 := h.b4
 have e4 := h.e4
 have hb : isBoilers (.tuple (P.bs.map bD)) = true := by
  unfold isBoilers
  dsimp only
  rw [isTO_ok (by rw [List.length_map]; omega) (by rw [List.length_map]; omega), Bool.true_and, List.all_eq_true]
  intro d hd
  obtain ⟨q, hq, rfl⟩ := List.mem_map.mp hd
  obtain ⟨q1, q2, q3, q4⟩ := h.b q hq
  unfold isMC
  dsimp only
  rw [isWF_ok q1 q2, isWF_ok q3 q4]; rfl
 have he : isEngines (.tuple (P.es.map eD)) = true := by
  unfold isEngines
  dsimp only
  rw [isTO_ok (by rw [List.length_map]; omega) (by rw [List.length_map]; omega), Bool.true_and, List.all_eq_true]
  intro d hd
  obtain ⟨q, hq, rfl⟩ := List.mem_map.mp hd
  obtain ⟨q1, q2, q3, q4, q5, q6⟩ := h.e q hq
  unfold isEng
  dsimp only
  rw [isWF_ok q1 q2, isWF_ok q3 q4, isWF_ok q5 q6]; rfl
 have h0 := h.lo0
 have h1 := h.ls
 have h2 := h.sh
 have h3 := h.h4
 have hm : isMain (.tuple [.int P.lo, .int P.hi, .int P.st]) = true := by
  unfold isMain
  dsimp only
  rw [isWF_ok (by omega) h3, isWF_ok (by omega) h2, isWF_ok h0 h1]; rfl
 unfold isPlant PL.d
 dsimp only
 rw [hb, he, hm]; rfl
def sp_need_plant : Sp := fun vs H Q _ => match vs with | [v] => ∃ p P, PL.ok P ∧ Rep p H P.d v ∧ ∀ H', Same H H' → Q .non H' | _ => False
def sp_is_fault : Sp := fun vs H Q _ => match vs with | [v, .int nb, .int hs] => ∃ p x n h, FT.ok x n h ∧ nb = (n : Int) ∧ hs = (h : Int) ∧ Rep p H x.d v ∧ ∀ H', Same H H' → Q (.bl true) H' | _ => False
def sp_is_story : Sp := fun vs H Q _ => match vs with | [v, u] => ∃ p P S, PL.ok P ∧ SY.ok S P.bs.length ∧ Rep p H P.d v ∧ Rep p H S.d u ∧ ∀ H', Same H H' → Q (.bl true) H' | _ => False
def sp_need_story : Sp := fun vs H Q _ => match vs with | [v, u] => ∃ p P S, PL.ok P ∧ SY.ok S P.bs.length ∧ Rep p H P.d v ∧ Rep p H S.d u ∧ ∀ H', Same H H' → Q .non H' | _ => False
def sp_cap_under : Sp := fun vs H Q _ => match vs with | [.ref a, .int m] => ∃ ws : List Bool, H a = some (.lst (ws.map wV)) ∧ ∀ H', Same H H' → Q (.int (capU ws m)) H' | _ => False
def sp_words_for : Sp := fun vs H Q _ => match vs with | [v, .int b, .int h] => ∃ p fs, Rep p H (.tuple (fs.map FT.d)) v ∧ fs.length ≤ 1000 ∧ ∀ a H', Same H H' → H' a = some (.lst ((wordsOf fs b h).map wV)) → Q (.ref a) H' | _ => False
def sp_caps_in : Sp := fun vs H Q _ => match vs with | [v, u, .int h] => ∃ p bs fs, Rep p H (.tuple (bs.map bD)) v ∧ Rep p H (.tuple (fs.map FT.d)) u ∧ bs.length ≤ 1000 ∧ fs.length ≤ 1000 ∧ ret H Q p (rowD (capsIn bs fs h)) | _ => False
def sp_caps_of : Sp := fun vs H Q _ => match vs with | [v, u] => ∃ p P S, PL.ok P ∧ SY.ok S P.bs.length ∧ Rep p H P.d v ∧ Rep p H S.d u ∧ ret H Q p (capsD P S) | _ => False
def sp_drawn_by : Sp := fun vs H Q _ => match vs with | [v, .int h] => ∃ p q, Rep p H (eD q) v ∧ 1 ≤ q.2.2 ∧ Q (.int (drawn q h)) H | _ => False
def sp_draws_of : Sp := fun vs H Q _ => match vs with | [v, u] => ∃ p P S, PL.ok P ∧ SY.ok S P.bs.length ∧ Rep p H P.d v ∧ Rep p H S.d u ∧ ret H Q p (drawsD P S) | _ => False
abbrev sp_full_firing : Sp := sp_caps_of
theorem len_caps_of {vs H Q E} (h : sp_caps_of vs H Q E) : vs.length = 2 := by unfold sp_caps_of at h; split at h; rfl; exact h.elim
theorem len_full_firing {vs H Q E} (h : sp_full_firing vs H Q E) : vs.length = 2 := len_caps_of h
theorem Rep.plant {p : Addr} {H : Hp} {P : PL} {v : V} (r : Rep p H P.d v) : ∃ A B E M xb xe, v = .ref A ∧ H A = some (.tup [.ref B, .ref E, .ref M]) ∧ H B = some (.tup xb) ∧ Reps p H (P.bs.map bD) xb ∧ H E = some (.tup xe) ∧ Reps p H (P.es.map eD) xe ∧ H M = some (.tup [.int P.lo, .int P.hi, .int P.st]) := by
 unfold PL.d at r
 obtain ⟨A, xs, rfl, hA, rs⟩ := Rep.shape r
 obtain ⟨x, y, z, rfl, rx, ry, rz⟩ := Reps.three rs
 obtain ⟨B, xb, rfl, hB, rb⟩ := Rep.shape rx
 obtain ⟨E, xe, rfl, hE, re⟩ := Rep.shape ry
 obtain ⟨M, xm, rfl, hM, rm⟩ := Rep.shape rz
 obtain ⟨m1, m2, m3, rfl, r1, r2, r3⟩ := Reps.three rm
 unfold Rep at r1 r2 r3
 subst r1 r2 r3
 exact ⟨A, B, E, M, xb, xe, rfl, hA, hB, rb, hE, re, hM⟩
theorem Rep.story {p : Addr} {H : Hp} {S : SY} {v : V} (r : Rep p H S.d v) : ∃ A B E xf, v = .ref A ∧ H A = some (.tup [.ref B, .ref E]) ∧ H B = some (.tup (S.ex.map V.int)) ∧ H E = some (.tup xf) ∧ Reps p H (S.fs.map FT.d) xf := by
 unfold SY.d at r
 obtain ⟨A, xs, rfl, hA, rs⟩ := Rep.shape r
 obtain ⟨x, y, rfl, rx, ry⟩ := Reps.two rs
 obtain ⟨B, xb, rfl, hB, rb⟩ := Rep.shape rx
 obtain ⟨E, xe, rfl, hE, re⟩ := Rep.shape ry
 rw [Reps.ints rb] at hB
 exact ⟨A, B, E, xe, rfl, hA, hB, hE, re⟩
section
variable {P : Program} {w : World} {K : PySem.W.Frag} {mg : Str → Option Value} {base : Heap}
theorem sc_need_plant : FnScope ["plant"] ["plant"] (defScope s_need_plant) := ⟨rfl, rfl, rfl, by decide +kernel, rfl, by decide +kernel, by decide +kernel⟩
theorem ok_need_plant (F : Df K mg "need_plant" s_need_plant ["plant"]) (T : Tx mg) (D_is_plant : Fn P w K mg base 5 "is_plant" ["thing"] sp_is_plant) : Fn P w K mg base 6 "need_plant" ["plant"] sp_need_plant := by
 refine F.fn sc_need_plant (fun vs H Q E h => ?_) (fun f cdv A outer s H vs Q E hr h => ?_)
 ·unfold sp_need_plant at h; split at h; rfl; exact h.elim
 refine ⟨_, (pss_one (c_if (pt_not (c_val (c_call D_is_plant (hr.mono (by decide)) rfl (pa1 (cx 0 (by rfl)) (by rfl)) (by decide) (by rfl) (by rfl)) (by intro _; rfl))) (pss_one ps_never) pss_nil)), ?_⟩
 unfold sp_need_plant at h
 split at h
 ·rename_i v
  obtain ⟨p, P, ok, r, q⟩ := h
  refine ⟨p, _, r, fun b H' hb s => ⟨fun c => ?_, fun c => q H' s⟩⟩
  rw [hb, isPlant_ok ok] at c
  cases c
 ·exact h.elim
theorem sc_is_fault : FnScope ["thing", "boilers", "hours", "boiler", "word", "first", "last"] ["thing", "boilers", "hours"] (defScope s_is_fault) := ⟨rfl, rfl, rfl, by decide +kernel, rfl, by decide +kernel, by decide +kernel⟩
theorem ok_is_fault (F : Df K mg "is_fault" s_is_fault ["thing", "boilers", "hours"]) (T : Tx mg) (D_is_tuple_of : Fn P w K mg base 1 "is_tuple_of" ["thing", "fewest", "most"] sp_is_tuple_of) (D_is_whole_from : Fn P w K mg base 2 "is_whole_from" ["thing", "least", "most"] sp_is_whole_from) : Fn P w K mg base 3 "is_fault" ["thing", "boilers", "hours"] sp_is_fault := by
 refine F.fn sc_is_fault (fun vs H Q E h => ?_) (fun f cdv A outer s H vs Q E hr h => ?_)
 ·unfold sp_is_fault at h; split at h; rfl; exact h.elim
 refine ⟨_, (pss_cons (c_if (pt_not (c_val (c_call D_is_tuple_of (hr.mono (by decide)) rfl (pa3 (cx 0 (by rfl)) pe_int pe_int (by rfl)) (by decide) (by rfl) (by rfl)) (by intro _; rfl))) (pss_one (ps_ret pe_bl)) pss_nil) (pss_cons (ps_asg (cx 0 (by rfl)) (pgT K (n := 4) (pgs_cons (pgx 3 sc_is_fault.nd (by rfl)) (pgs_cons (pgx 4 sc_is_fault.nd (by rfl)) (pgs_cons (pgx 5 sc_is_fault.nd (by rfl)) (pgs_cons (pgx 6 sc_is_fault.nd (by rfl)) pgs_nil (by rfl)) (by rfl)) (by rfl)) (by rfl)) (by rfl) (by rfl) (by rfl) (by rfl)) (by rfl) (by rfl) (by rfl)) (pss_one (ps_ret (c_andV (c_call D_is_whole_from (hr.mono (by decide)) rfl (pa3 (cx 3 (by rfl)) pe_int (pe_op o_sub (cx 1 (by rfl)) pe_int) (by rfl)) (by decide) (by rfl) (by rfl)) (c_andV (pe_cmpR (inS K (by rfl)) (cx 4 (by rfl)) (c_tup (pa2 pe_str pe_str (by rfl))) (by with_unfolding_all rfl)) (c_andV (c_call D_is_whole_from (hr.mono (by decide)) rfl (pa3 (cx 6 (by rfl)) pe_int (pe_op o_sub (cx 2 (by rfl)) pe_int) (by rfl)) (by decide) (by rfl) (by rfl)) (pe_one (c_call D_is_whole_from (hr.mono (by decide)) rfl (pa3 (cx 5 (by rfl)) pe_int (cx 6 (by rfl)) (by rfl)) (by decide) (by rfl) (by rfl)))))))))), ?_⟩
 unfold sp_is_fault at h
 split at h
 ·rename_i v nb hs
  obtain ⟨p, x, n, k, ok, rfl, rfl, r, q⟩ := h
  obtain ⟨o1, o2, o3, o4, o5⟩ := ok
  refine ⟨p, _, r, fun b hb => ⟨fun c => ?_, fun c => ?_⟩⟩
  ·rw [hb] at c; cases c
  ·obtain ⟨l, xs, rfl, hl, rs⟩ := Rep.shape r
   obtain ⟨y1, y2, y3, y4, rfl, r1, r2, r3, r4⟩ := Reps.four rs
   unfold Rep at r1 r2 r3 r4
   subst r1 r2 r3 r4
   refine ⟨l, _, rfl, SqT.of hl, rfl, _, _, rfl, _, _, rfl, _, _, rfl, _, _, rfl, rfl, p, .int x.b, Rep.int, fun b1 e1 => ⟨fun _ => ?_, fun c1 => ?_⟩⟩
   ·refine fun t ht => ⟨t, _, rfl, .inr (SqT.of upd_same), rfl, rfl, ⟨fun _ => ?_, fun c2 => ?_⟩⟩
    ·refine ⟨p, .int x.l, Rep.int, fun b2 e2 => ⟨fun _ => ⟨p, .int x.f, Rep.int, fun b3 e3 => ?_⟩, fun c2 => ?_⟩⟩
     ·rw [isWF_ok o3 o4] at e3
      subst e3
      exact q _ (Same.new ht)
     ·rw [isWF_ok (by omega) (by omega)] at e2
      rw [e2] at c2; cases c2
    ·rw [if_neg (by decide)] at c2
     have := word_known x.out
     unfold wV at this
     rw [this] at c2; cases c2
   ·rw [isWF_ok o1 (by omega)] at e1
    rw [e1] at c1; cases c1
 ·exact h.elim
theorem sc_is_story : FnScope ["plant", "thing", "extra", "faults"] ["plant", "thing"] (defScope s_is_story) := ⟨rfl, rfl, rfl, by decide +kernel, rfl, by decide +kernel, by decide +kernel⟩
theorem ok_is_story (F : Df K mg "is_story" s_is_story ["plant", "thing"]) (T : Tx mg) (D_is_fault : Fn P w K mg base 3 "is_fault" ["thing", "boilers", "hours"] sp_is_fault) (D_is_tuple_of : Fn P w K mg base 1 "is_tuple_of" ["thing", "fewest", "most"] sp_is_tuple_of) (D_is_whole_from : Fn P w K mg base 2 "is_whole_from" ["thing", "least", "most"] sp_is_whole_from) (D_need_plant : Fn P w K mg base 6 "need_plant" ["plant"] sp_need_plant) : Fn P w K mg base 7 "is_story" ["plant", "thing"] sp_is_story := by
 obtain ⟨t_MOST_EXTRA, g_MOST_EXTRA⟩ := T.g_MOST_EXTRA
 obtain ⟨t_MOST_FAULTS, g_MOST_FAULTS⟩ := T.g_MOST_FAULTS
 obtain ⟨t_MOST_HOURS, g_MOST_HOURS⟩ := T.g_MOST_HOURS
 refine F.fn sc_is_story (fun vs H Q E h => ?_) (fun f cdv A outer s H vs Q E hr h => ?_)
 ·unfold sp_is_story at h; split at h; rfl; exact h.elim
 refine ⟨_, (pss_cons (ps_expr (c_call D_need_plant (hr.mono (by decide)) rfl (pa1 (cx 0 (by rfl)) (by rfl)) (by decide) (by rfl) (by rfl)) (by rfl)) (pss_cons (c_if (pt_not (c_val (c_call D_is_tuple_of (hr.mono (by decide)) rfl (pa3 (cx 1 (by rfl)) pe_int pe_int (by rfl)) (by decide) (by rfl) (by rfl)) (by intro _; rfl))) (pss_one (ps_ret pe_bl)) pss_nil) (pss_cons (ps_asg (cx 1 (by rfl)) (pgT K (n := 2) (pgs_cons (pgx 2 sc_is_story.nd (by rfl)) (pgs_cons (pgx 3 sc_is_story.nd (by rfl)) pgs_nil (by rfl)) (by rfl)) (by rfl) (by rfl) (by rfl) (by rfl)) (by rfl) (by rfl) (by rfl)) (pss_one (ps_ret (c_andV (c_call D_is_tuple_of (hr.mono (by decide)) rfl (pa3 (cx 2 (by rfl)) pe_int (pe_glob (v := .int 8) rfl g_MOST_HOURS ⟨t_MOST_HOURS, rfl⟩ (by decide)) (by rfl)) (by decide) (by rfl) (by rfl)) (c_andV (pe_callB (call_all rfl) rfl T.b_all boot_all (pa1 (pe_comp ["units"] [none] rfl (piT K (cx 2 (by rfl)) (by rfl)) (BlockScope.of rfl) (fun _ _ _ _ => (pgx 0 (nd_of (by rfl)) (by rfl))) (fun _ _ _ _ => pts_nil) (fun _ _ _ _ => (c_call D_is_whole_from (hr.mono (by decide)) rfl (pa3 (cx 0 (by rfl)) pe_int (pe_glob (v := .int 20) rfl g_MOST_EXTRA ⟨t_MOST_EXTRA, rfl⟩ (by decide)) (by rfl)) (by decide) (by rfl) (by rfl))) (by intro _; rfl)) (by rfl)) (by decide) (by decide) (by rfl) (by rfl)) (c_andV (c_call D_is_tuple_of (hr.mono (by decide)) rfl (pa3 (cx 3 (by rfl)) pe_int (pe_glob (v := .int 4) rfl g_MOST_FAULTS ⟨t_MOST_FAULTS, rfl⟩ (by decide)) (by rfl)) (by decide) (by rfl) (by rfl)) (pe_one (pe_callB (call_all rfl) rfl T.b_all boot_all (pa1 (pe_comp ["part", "extra", "plant"] [none, some 2, some 0] rfl (piT K (cx 3 (by rfl)) (by rfl)) (BlockScope.of rfl) (fun _ _ _ _ => (pgx 0 (nd_of (by rfl)) (by rfl))) (fun _ _ _ _ => pts_nil) (fun _ _ _ _ => (c_call D_is_fault (hr.mono (by decide)) rfl (pa3 (cx 0 (by rfl)) (pe_callB (lenS K (by rfl)) rfl T.b_len PySem.boot_len (pa1 (pe_ix (ixT K (by rfl)) (cx 2 (by rfl)) pe_int (fun _ _ => rfl)) (by rfl)) (by decide) (by decide) (by rfl) (by rfl)) (pe_callB (lenS K (by rfl)) rfl T.b_len PySem.boot_len (pa1 (cx 1 (by rfl)) (by rfl)) (by decide) (by decide) (by rfl) (by rfl)) (by rfl)) (by decide) (by rfl) (by rfl))) (by intro _; rfl)) (by rfl)) (by decide) (by decide) (by rfl) (by rfl))))))))))), ?_⟩
 unfold sp_is_story at h
 split at h
 ·rename_i v u
  obtain ⟨p, P, S, ok, so, r, ru, q⟩ := h
  refine ⟨p, P, ok, r, fun H1 s1 => ⟨p, S.d, Rep.ev (Ev.same s1) _ _ ru, fun b hb => ⟨fun c => ?_, fun c => ?_⟩⟩⟩
  ·rw [hb] at c; cases c
  ·obtain ⟨A, B, E, xf, rfl, hA, hB, hE, rf⟩ := Rep.story (Rep.ev (Ev.same s1) _ _ ru)
   obtain ⟨PA, PB, PE, PM, xb, xe, rfl, pA, pB, rb, pE, re, pM⟩ := Rep.plant (Rep.ev (Ev.same s1) _ _ r)
   have x1 := so.x1
   have x8 := so.x8
   have f4 := so.f4
   have lf := rf.len
   rw [List.length_map] at lf
   have lb := rb.len
   rw [List.length_map] at lb
   refine ⟨A, _, rfl, SqT.of hA, rfl, _, _, rfl, _, _, rfl, rfl, p, _, Rep.row hB, fun b1 e1 => ⟨fun _ => ?_, fun c1 => ?_⟩⟩
   ·refine ⟨B, rfl, ⟨_, SqT.of hB⟩, walk_tup (xs := S.ex.map V.int) (fun i ys H' => Same H1 H' ∧ ys = List.replicate i (V.bl true)) (by rw [List.length_map]; omega) ⟨Same.refl _, rfl⟩ (fun i ys H' h => by rw [h.2, List.length_replicate]; omega) (fun i ys H' _ h => SqT.of (h.1 _ _ hB)) (fun i x ys H' hx h => ?_) fun ys H' h => ?_⟩
    ·rw [List.getElem?_map] at hx
     cases z : S.ex[i]? with
     | none => rw [z] at hx; cases hx
     | some n =>
      rw [z] at hx
      cases hx
      obtain ⟨n0, n20⟩ := so.x n (List.mem_of_getElem? z)
      refine ⟨trivial, fun _ => ⟨p, .int n, Rep.int, fun b e => ⟨h.1, ?_⟩⟩, fun c => by cases c⟩
      rw [isWF_ok n0 n20] at e
      rw [h.2, e, List.replicate_succ']
    ·intro m hm
     refine ⟨m, List.replicate S.ex.length true, rfl, by rw [upd_same, h.2, List.length_map, List.map_replicate], ⟨fun _ => ?_, fun c => ?_⟩⟩
     ·have s2 : Same H1 (upd H' m (.lst ys)) := h.1.trans (Same.new hm)
      refine ⟨p, _, Rep.tup (s2 _ _ hE) (Reps.ev (Ev.same s2) _ _ rf), fun b2 e2 => ⟨fun _ => ?_, fun c2 => ?_⟩⟩
      ·refine ⟨E, rfl, ⟨_, SqT.of (s2 _ _ hE)⟩, walk_tup (xs := xf) (fun i zs H2 => Same H1 H2 ∧ zs = List.replicate i (V.bl true)) (by omega) ⟨s2, rfl⟩ (fun i ys H' h => by rw [h.2, List.length_replicate]; omega) (fun i ys H' _ h => SqT.of (h.1 _ _ hE)) (fun i x zs H2 hx h2 => ?_) fun zs H2 h2 => ?_⟩
       ·obtain ⟨f, hf, rd⟩ := Reps.mapGot rf hx
        refine ⟨⟨rfl, rfl, trivial⟩, fun _ => ?_, fun c => by cases c⟩
        refine ⟨PA, _, 0, .ref PB, rfl, rfl, SqT.of (h2.1 _ _ pA), rfl, PB, xb, rfl, .inr (SqT.of (h2.1 _ _ pB)), B, _, rfl, .inr (SqT.of (h2.1 _ _ hB)), ?_⟩
        refine ⟨p, f, P.bs.length, S.ex.length, so.f f (List.mem_of_getElem? hf), by rw [lb], by rw [List.length_map], Rep.ev (Ev.same h2.1) _ _ rd, fun H3 s3 => ⟨h2.1.trans s3, ?_⟩⟩
        rw [h2.2, List.replicate_succ']
       ·intro m2 hm2
        refine ⟨m2, List.replicate xf.length true, rfl, by rw [upd_same, h2.2, List.map_replicate], ?_⟩
        have ea : (List.replicate xf.length true).all id = true := by simp
        rw [ea]
        exact q _ (s1.trans (h2.1.trans (Same.new hm2)))
      ·rw [isTO_ok (by rw [List.length_map]; omega) (by rw [List.length_map]; omega)] at e2
       rw [e2] at c2; cases c2
     ·have ea : (List.replicate S.ex.length true).all id = true := by simp
      rw [ea] at c; cases c
   ·rw [isTO_ok (by rw [List.length_map]; omega) (by rw [List.length_map]; omega)] at e1
    rw [e1] at c1; cases c1
 ·exact h.elim
theorem sc_need_story : FnScope ["plant", "story"] ["plant", "story"] (defScope s_need_story) := ⟨rfl, rfl, rfl, by decide +kernel, rfl, by decide +kernel, by decide +kernel⟩
theorem ok_need_story (F : Df K mg "need_story" s_need_story ["plant", "story"]) (T : Tx mg) (D_is_story : Fn P w K mg base 7 "is_story" ["plant", "thing"] sp_is_story) : Fn P w K mg base 8 "need_story" ["plant", "story"] sp_need_story := by
 refine F.fn sc_need_story (fun vs H Q E h => ?_) (fun f cdv A outer s H vs Q E hr h => ?_)
 ·unfold sp_need_story at h; split at h; rfl; exact h.elim
 refine ⟨_, (pss_one (c_if (pt_not (c_val (c_call D_is_story (hr.mono (by decide)) rfl (pa2 (cx 0 (by rfl)) (cx 1 (by rfl)) (by rfl)) (by decide) (by rfl) (by rfl)) (by intro _; rfl))) (pss_one ps_never) pss_nil)), ?_⟩
 unfold sp_need_story at h
 split at h
 ·rename_i v u
  obtain ⟨p, P, S, ok, so, r, ru, q⟩ := h
  exact ⟨p, P, S, ok, so, r, ru, fun H' s => ⟨fun c => (by cases c), fun c => q H' s⟩⟩
 ·exact h.elim
theorem sc_cap_under : FnScope ["words", "make"] ["words", "make"] (defScope s_cap_under) := ⟨rfl, rfl, rfl, by decide +kernel, rfl, by decide +kernel, by decide +kernel⟩
theorem ok_cap_under (F : Df K mg "cap_under" s_cap_under ["words", "make"]) (T : Tx mg)  : Fn P w K mg base 1 "cap_under" ["words", "make"] sp_cap_under := by
 refine F.fn sc_cap_under (fun vs H Q E h => ?_) (fun f cdv A outer s H vs Q E hr h => ?_)
 ·unfold sp_cap_under at h; split at h; rfl; exact h.elim
 refine ⟨_, (pss_cons (c_if (c_cmpT (inS K (by rfl)) pe_str (cx 0 (by rfl)) (by with_unfolding_all rfl)) (pss_one (ps_ret pe_int)) pss_nil) (pss_cons (c_if (c_cmpT (inS K (by rfl)) pe_str (cx 0 (by rfl)) (by with_unfolding_all rfl)) (pss_one (ps_ret (pe_op o_fdiv (cx 1 (by rfl)) pe_int))) pss_nil) (pss_one (ps_ret (cx 1 (by rfl)))))), ?_⟩
 unfold sp_cap_under at h
 split at h
 ·rename_i a m
  obtain ⟨ws, ha, q⟩ := h
  refine ⟨a, _, rfl, .inl (SqL.of ha), rfl, flat_words, ⟨fun c => ?_, fun c => ?_⟩⟩
  ·rw [if_neg (by decide), in_out] at c
   have e : capU ws m = 0 := by unfold capU; rw [if_pos c]
   rw [e] at q
   exact q _ (Same.refl _)
  ·rw [if_neg (by decide), in_out] at c
   refine ⟨a, _, rfl, .inl (SqL.of ha), rfl, flat_words, ⟨fun c2 => ?_, fun c2 => ?_⟩⟩
   ·rw [if_neg (by decide), in_scaled] at c2
    have e : capU ws m = m / 2 := by unfold capU; rw [if_neg (by rw [c]; decide), if_pos c2]
    rw [e] at q
    exact ⟨⟨by decide, by decide⟩, q _ (Same.refl _)⟩
   ·rw [if_neg (by decide), in_scaled] at c2
    have e : capU ws m = m := by unfold capU; rw [if_neg (by rw [c]; decide), if_neg (by rw [c2]; decide)]
    rw [e] at q
    exact q _ (Same.refl _)
 ·exact h.elim
theorem sc_words_for : FnScope ["faults", "boiler", "hour"] ["faults", "boiler", "hour"] (defScope s_words_for) := ⟨rfl, rfl, rfl, by decide +kernel, rfl, by decide +kernel, by decide +kernel⟩
theorem ok_words_for (F : Df K mg "words_for" s_words_for ["faults", "boiler", "hour"]) (T : Tx mg)  : Fn P w K mg base 1 "words_for" ["faults", "boiler", "hour"] sp_words_for := by
 refine F.fn sc_words_for (fun vs H Q E h => ?_) (fun f cdv A outer s H vs Q E hr h => ?_)
 ·unfold sp_words_for at h; split at h; rfl; exact h.elim
 refine ⟨_, (pss_one (ps_ret (pe_comp ["at", "word", "first", "last", "boiler", "hour"] [none, none, none, none, some 1, some 2] rfl (piT K (cx 0 (by rfl)) (by rfl)) (BlockScope.of rfl) (fun _ _ _ _ => (pgT K (n := 4) (pgs_cons (pgx 0 (nd_of (by rfl)) (by rfl)) (pgs_cons (pgx 1 (nd_of (by rfl)) (by rfl)) (pgs_cons (pgx 2 (nd_of (by rfl)) (by rfl)) (pgs_cons (pgx 3 (nd_of (by rfl)) (by rfl)) pgs_nil (by rfl)) (by rfl)) (by rfl)) (by rfl)) (by rfl) (by rfl) (by rfl) (by rfl))) (fun _ _ _ _ => (pts_one (PW.pt (c_and (c_cmpT op_eq (cx 0 (by rfl)) (cx 4 (by rfl)) (nomark _)) (pw_and1 (c_chainT o_le o_le (cx 2 (by rfl)) (cx 5 (by rfl)) (cx 3 (by rfl)) (by with_unfolding_all rfl))))))) (fun _ _ _ _ => (cx 1 (by rfl))) (by intro _; rfl)))), ?_⟩
 unfold sp_words_for at h
 split at h
 ·rename_i v b hr'
  obtain ⟨p, fs, r, hl, q⟩ := h
  obtain ⟨A, xs, rfl, hA, rs⟩ := Rep.shape r
  have ln := rs.len
  rw [List.length_map] at ln
  refine ⟨A, rfl, ⟨xs, SqT.of hA⟩, walk_tup (xs := xs) (fun i ys H' => Same H H' ∧ ys = (wordsOf (fs.take i) b hr').map wV) (by omega) ⟨Same.refl _, rfl⟩ (fun i ys H' h => ?_) (fun i ys H' _ h => SqT.of (h.1 _ _ hA)) (fun i x ys H' hx h => ?_) fun ys H' h => ?_⟩
  ·rw [h.2, List.length_map]
   unfold wordsOf
   rw [List.length_map]
   exact Nat.le_trans (List.length_filter_le _ _) (by rw [List.length_take]; omega)
  ·obtain ⟨f, hf, rd⟩ := Reps.mapGot rs hx
   obtain ⟨l, zs, rfl, hl', rz⟩ := Rep.shape (Rep.ev (Ev.same h.1) _ _ rd)
   obtain ⟨y1, y2, y3, y4, rfl, r1, r2, r3, r4⟩ := Reps.four rz
   unfold Rep at r1 r2 r3 r4
   subst r1 r2 r3 r4
   have nx := words_next (b := b) (h := hr') hf
   have no : hitF b hr' f = false → Same H H' ∧ ys = (wordsOf (fs.take (i + 1)) b hr').map wV := fun e => ⟨h.1, by rw [nx, e, if_neg (by decide)]; exact h.2⟩
   refine ⟨l, _, rfl, SqT.of hl', rfl, _, _, rfl, _, _, rfl, _, _, rfl, _, _, rfl, rfl, ⟨rfl, rfl, trivial⟩, rfl, ⟨fun c1 => ⟨fun c2 => ⟨fun c3 => ?_, fun c3 => no ?_⟩, fun c2 => ⟨fun z => (by cases z), fun _ => no ?_⟩⟩, fun c1 => ⟨fun z => (by cases z), fun _ => no ?_⟩⟩⟩
   ·have e : hitF b hr' f = true := by
     rw [dec_int] at c1
     unfold hitF; rw [c1, c2, c3]; rfl
    refine ⟨h.1, ?_⟩
    rw [nx, if_pos e, List.map_append, h.2]; rfl
   ·unfold hitF; rw [c3, Bool.and_false]
   ·unfold hitF; rw [c2, Bool.and_false, Bool.false_and]
   ·rw [dec_int] at c1
    unfold hitF; rw [c1, Bool.false_and, Bool.false_and]
  ·intro m hm
   refine q m _ (h.1.trans (Same.new hm)) ?_
   rw [upd_same, h.2, List.take_of_length_le (by omega)]
 ·exact h.elim
theorem sc_caps_in : FnScope ["boilers", "faults", "hour"] ["boilers", "faults", "hour"] (defScope s_caps_in) := ⟨rfl, rfl, rfl, by decide +kernel, rfl, by decide +kernel, by decide +kernel⟩
theorem ok_caps_in (F : Df K mg "caps_in" s_caps_in ["boilers", "faults", "hour"]) (T : Tx mg) (D_cap_under : Fn P w K mg base 1 "cap_under" ["words", "make"] sp_cap_under) (D_words_for : Fn P w K mg base 1 "words_for" ["faults", "boiler", "hour"] sp_words_for) : Fn P w K mg base 2 "caps_in" ["boilers", "faults", "hour"] sp_caps_in := by
 refine F.fn sc_caps_in (fun vs H Q E h => ?_) (fun f cdv A outer s H vs Q E hr h => ?_)
 ·unfold sp_caps_in at h; split at h; rfl; exact h.elim
 refine ⟨_, (pss_one (ps_ret (pe_callTy (tupOf K (by rfl)) rfl T.b_tuple boot_tuple' (pa1 (pe_comp ["at", "make", "coal", "faults", "hour"] [none, none, none, some 1, some 2] rfl (piET P w K rfl T.b_enumerate (pa1 (cx 0 (by rfl)) (by rfl)) (by rfl) (by rfl) (by rfl) (by rfl)) (BlockScope.of rfl) (fun _ _ _ _ => (pgT K (n := 2) (pgs_cons (pgx 0 (nd_of (by rfl)) (by rfl)) (pgs_cons (pgT K (n := 2) (pgs_cons (pgx 1 (nd_of (by rfl)) (by rfl)) (pgs_cons (pgx 2 (nd_of (by rfl)) (by rfl)) pgs_nil (by rfl)) (by rfl)) (by rfl) (by rfl) (by rfl) (by rfl)) pgs_nil (by rfl)) (by rfl)) (by rfl) (by rfl) (by rfl) (by rfl))) (fun _ _ _ _ => pts_nil) (fun _ _ _ _ => (c_call D_cap_under (hr.mono (by decide)) rfl (pa2 (c_call D_words_for (hr.mono (by decide)) rfl (pa3 (cx 3 (by rfl)) (cx 0 (by rfl)) (cx 4 (by rfl)) (by rfl)) (by decide) (by rfl) (by rfl)) (cx 1 (by rfl)) (by rfl)) (by decide) (by rfl) (by rfl))) (by intro _; rfl)) (by rfl)) (by decide) (by decide) (by rfl) (by rfl)))), ?_⟩
 unfold sp_caps_in at h
 split at h
 ·rename_i v u hour
  obtain ⟨p, bs, fs, r, ru, lb, lf, q⟩ := h
  obtain ⟨A, xs, rfl, hA, rs⟩ := Rep.shape r
  have ln := rs.len
  rw [List.length_map] at ln
  refine ⟨A, rfl, ⟨xs, SqT.of hA⟩, walk_enum (xs := xs) (fun i ys H' => Same H H' ∧ ys = ((capsIn bs fs hour).take i).map V.int) (by omega) ⟨Same.refl _, rfl⟩ (fun i ys H' h => by rw [h.2, List.length_map, List.length_take]; omega) (fun i ys H' h => SqT.of (h.1 _ _ hA)) (fun i x ys H' T hx h hT => ?_) fun ys H' h => ?_⟩
  ·obtain ⟨f, hf, rd⟩ := Reps.mapGot rs hx
   have s2 : Same H (upd H' T (.tup [.int i, x])) := h.1.trans (Same.new hT)
   obtain ⟨l, zs, rfl, hl', rz⟩ := Rep.shape (Rep.ev (Ev.same s2) _ _ rd)
   obtain ⟨y1, y2, rfl, r1, r2⟩ := Reps.two rz
   unfold Rep at r1 r2
   subst r1 r2
   refine ⟨T, _, rfl, SqT.of upd_same, rfl, _, _, rfl, _, _, rfl, l, _, rfl, SqT.of hl', rfl, _, _, rfl, _, _, rfl, rfl, rfl, ⟨rfl, rfl, trivial⟩, fun _ => ?_, fun z => by cases z⟩
   refine ⟨p, fs, Rep.ev (Ev.same s2) _ _ ru, lf, fun a H3 s3 ha => ⟨_, ha, fun H4 s4 => ⟨s2.trans (s3.trans s4), ?_⟩⟩⟩
   rw [take_next (capsIn_get hf), List.map_append, h.2]; rfl
  ·intro m hm
   refine ⟨m, _, rfl, .inl ⟨SqL.of upd_same, fun t ht => ?_⟩⟩
   refine q _ _ (h.1.trans ((Same.new hm).trans (Same.new ht))) (Rep.row ?_)
   rw [upd_same, h.2, List.take_of_length_le (by rw [capsIn_len]; omega)]
 ·exact h.elim
theorem sc_caps_of : FnScope ["plant", "story", "extra", "faults"] ["plant", "story"] (defScope s_caps_of) := ⟨rfl, rfl, rfl, by decide +kernel, rfl, by decide +kernel, by decide +kernel⟩
theorem ok_caps_of (F : Df K mg "caps_of" s_caps_of ["plant", "story"]) (T : Tx mg) (D_caps_in : Fn P w K mg base 2 "caps_in" ["boilers", "faults", "hour"] sp_caps_in) (D_need_story : Fn P w K mg base 8 "need_story" ["plant", "story"] sp_need_story) : Fn P w K mg base 9 "caps_of" ["plant", "story"] sp_caps_of := by
 refine F.fn sc_caps_of (fun vs H Q E h => ?_) (fun f cdv A outer s H vs Q E hr h => ?_)
 ·unfold sp_caps_of at h; split at h; rfl; exact h.elim
 refine ⟨_, (pss_cons (ps_expr (c_call D_need_story (hr.mono (by decide)) rfl (pa2 (cx 0 (by rfl)) (cx 1 (by rfl)) (by rfl)) (by decide) (by rfl) (by rfl)) (by rfl)) (pss_cons (ps_asg (cx 1 (by rfl)) (pgT K (n := 2) (pgs_cons (pgx 2 sc_caps_of.nd (by rfl)) (pgs_cons (pgx 3 sc_caps_of.nd (by rfl)) pgs_nil (by rfl)) (by rfl)) (by rfl) (by rfl) (by rfl) (by rfl)) (by rfl) (by rfl) (by rfl)) (pss_one (ps_ret (pe_callTy (tupOf K (by rfl)) rfl T.b_tuple boot_tuple' (pa1 (pe_comp ["hour", "faults", "plant"] [none, some 3, some 0] rfl (pi_range1 rfl T.b_range (pa1 (pe_callB (lenS K (by rfl)) rfl T.b_len PySem.boot_len (pa1 (cx 2 (by rfl)) (by rfl)) (by decide) (by decide) (by rfl) (by rfl)) (by rfl)) (by rfl)) (BlockScope.of rfl) (fun _ _ _ _ => (pgx 0 (nd_of (by rfl)) (by rfl))) (fun _ _ _ _ => pts_nil) (fun _ _ _ _ => (c_call D_caps_in (hr.mono (by decide)) rfl (pa3 (pe_ix (ixT K (by rfl)) (cx 2 (by rfl)) pe_int (fun _ _ => rfl)) (cx 1 (by rfl)) (cx 0 (by rfl)) (by rfl)) (by decide) (by rfl) (by rfl))) (by intro _; rfl)) (by rfl)) (by decide) (by decide) (by rfl) (by rfl)))))), ?_⟩
 unfold sp_caps_of at h
 split at h
 ·rename_i v u
  obtain ⟨p, P, S, ok, so, r, ru, q⟩ := h
  refine ⟨p, P, S, ok, so, r, ru, fun H1 s1 => ?_⟩
  obtain ⟨A, B, E, xf, rfl, hA, hB, hE, rf⟩ := Rep.story (Rep.ev (Ev.same s1) _ _ ru)
  obtain ⟨PA, PB, PE, PM, xb, xe, rfl, pA, pB, rb, pE, re, pM⟩ := Rep.plant (Rep.ev (Ev.same s1) _ _ r)
  have x8 := so.x8
  have f4 := so.f4
  have b4 := ok.b4
  refine ⟨A, _, rfl, SqT.of hA, rfl, _, _, rfl, _, _, rfl, rfl, B, _, rfl, .inr (SqT.of hB), _, rfl, by omega, by rw [List.length_map]; omega, walk_range (n := (S.ex.map V.int).length) (fun i ys H' => Same H1 H' ∧ Reps p H' (((caps P S).take i).map rowD) ys) (by rw [List.length_map]; omega) ⟨Same.refl _, .nil⟩ (fun i ys H' h => by rw [← h.2.len, List.length_map, List.length_take]; omega) (fun i ys H' hi h => ?_) fun ys H' h => ?_⟩
  ·rw [List.length_map] at hi
   refine ⟨⟨rfl, rfl, trivial⟩, fun _ => ?_, fun z => by cases z⟩
   refine ⟨PA, _, 0, .ref PB, rfl, rfl, SqT.of (h.1 _ _ pA), rfl, p, P.bs, S.fs, Rep.tup (h.1 _ _ pB) (Reps.ev (Ev.same h.1) _ _ rb), Rep.tup (h.1 _ _ hE) (Reps.ev (Ev.same h.1) _ _ rf), by omega, by omega, fun v2 H2 s2 r2 => ⟨h.1.trans s2, ?_⟩⟩
   rw [Int.zero_add] at r2
   rw [take_next (caps_get hi), List.map_append]
   exact Reps.snoc (Reps.ev (Ev.same s2) _ _ h.2) r2
  ·intro m hm
   refine ⟨m, _, rfl, .inl ⟨SqL.of upd_same, fun t ht => ?_⟩⟩
   have s3 := (Same.new (o := .lst ys) hm).trans (Same.new (o := .tup ys) ht)
   refine q _ _ (s1.trans (h.1.trans s3)) (Rep.tup upd_same ?_)
   have r3 := Reps.ev (Ev.same s3) _ _ h.2
   rw [List.take_of_length_le (by rw [caps_len, List.length_map]; exact Nat.le_refl _)] at r3
   exact r3
 ·exact h.elim
theorem sc_drawn_by : FnScope ["engine", "hour", "draw", "first", "every"] ["engine", "hour"] (defScope s_drawn_by) := ⟨rfl, rfl, rfl, by decide +kernel, rfl, by decide +kernel, by decide +kernel⟩
theorem ok_drawn_by (F : Df K mg "drawn_by" s_drawn_by ["engine", "hour"]) (T : Tx mg)  : Fn P w K mg base 1 "drawn_by" ["engine", "hour"] sp_drawn_by := by
 refine F.fn sc_drawn_by (fun vs H Q E h => ?_) (fun f cdv A outer s H vs Q E hr h => ?_)
 ·unfold sp_drawn_by at h; split at h; rfl; exact h.elim
 refine ⟨_, (pss_cons (ps_asg (cx 0 (by rfl)) (pgT K (n := 3) (pgs_cons (pgx 2 sc_drawn_by.nd (by rfl)) (pgs_cons (pgx 3 sc_drawn_by.nd (by rfl)) (pgs_cons (pgx 4 sc_drawn_by.nd (by rfl)) pgs_nil (by rfl)) (by rfl)) (by rfl)) (by rfl) (by rfl) (by rfl) (by rfl)) (by rfl) (by rfl) (by rfl)) (pss_cons (c_if (PW.pt (c_or (c_cmpT o_lt (cx 1 (by rfl)) (cx 3 (by rfl)) (nomark _)) (pw_or1 (c_cmpT op_ne (pe_op o_mod (pe_op o_sub (cx 1 (by rfl)) (cx 3 (by rfl))) (cx 4 (by rfl))) pe_int (nomark _))))) (pss_one (ps_ret pe_int)) pss_nil) (pss_one (ps_ret (cx 2 (by rfl)))))), ?_⟩
 unfold sp_drawn_by at h
 split at h
 ·rename_i v hour
  obtain ⟨p, e, r, e1, q⟩ := h
  obtain ⟨A, xs, rfl, hA, rs⟩ := Rep.shape r
  obtain ⟨y1, y2, y3, rfl, r1, r2, r3⟩ := Reps.three rs
  unfold Rep at r1 r2 r3
  subst r1 r2 r3
  refine ⟨A, _, rfl, SqT.of hA, rfl, _, _, rfl, _, _, rfl, _, _, rfl, rfl, ⟨fun c => ⟨fun _ => ?_, fun z => by cases z⟩, fun c => ⟨by omega, rfl, ⟨fun c2 => ?_, fun c2 => ?_⟩⟩⟩⟩
  ·have z : drawn e hour = 0 := by unfold drawn; rw [if_pos (.inl (of_decide_eq_true c))]
   rw [z] at q; exact q
  ·have z : drawn e hour = 0 := by
    unfold drawn; exact if_pos (.inr fun z => nd_ne c2 (congrArg V.int z))
   rw [z] at q; exact q
  ·have z : drawn e hour = e.1 := by
    unfold drawn; rw [if_neg ?_]
    rintro (z | z)
    ·exact absurd (decide_eq_true z) (by rw [c]; decide)
    ·apply z
     have : V.int ((hour - e.2.1) % e.2.2) = V.int 0 := by simpa using c2
     injection this
   rw [z] at q; exact q
 ·exact h.elim
theorem sc_draws_of : FnScope ["plant", "story", "engines"] ["plant", "story"] (defScope s_draws_of) := ⟨rfl, rfl, rfl, by decide +kernel, rfl, by decide +kernel, by decide +kernel⟩
theorem ok_draws_of (F : Df K mg "draws_of" s_draws_of ["plant", "story"]) (T : Tx mg) (D_drawn_by : Fn P w K mg base 1 "drawn_by" ["engine", "hour"] sp_drawn_by) (D_need_story : Fn P w K mg base 8 "need_story" ["plant", "story"] sp_need_story) : Fn P w K mg base 9 "draws_of" ["plant", "story"] sp_draws_of := by
 refine F.fn sc_draws_of (fun vs H Q E h => ?_) (fun f cdv A outer s H vs Q E hr h => ?_)
 ·unfold sp_draws_of at h; split at h; rfl; exact h.elim
 refine ⟨_, (pss_cons (ps_expr (c_call D_need_story (hr.mono (by decide)) rfl (pa2 (cx 0 (by rfl)) (cx 1 (by rfl)) (by rfl)) (by decide) (by rfl) (by rfl)) (by rfl)) (pss_cons (ps_set (i := 2) sc_draws_of.nd rfl (loc_of (by rfl)) (pe_ix (ixT K (by rfl)) (cx 0 (by rfl)) pe_int (fun _ _ => rfl)) (by rfl) (fl_of (by rfl))) (pss_one (ps_ret (pe_callTy (tupOf K (by rfl)) rfl T.b_tuple boot_tuple' (pa1 (pe_comp ["hour", "units", "engines"] [none, none, some 2] rfl (piET P w K rfl T.b_enumerate (pa1 (pe_ix (ixT K (by rfl)) (cx 1 (by rfl)) pe_int (fun _ _ => rfl)) (by rfl)) (by rfl) (by rfl) (by rfl) (by rfl)) (BlockScope.of rfl) (fun _ _ _ _ => (pgT K (n := 2) (pgs_cons (pgx 0 (nd_of (by rfl)) (by rfl)) (pgs_cons (pgx 1 (nd_of (by rfl)) (by rfl)) pgs_nil (by rfl)) (by rfl)) (by rfl) (by rfl) (by rfl) (by rfl))) (fun _ _ _ _ => pts_nil) (fun _ _ _ _ => (pe_op o_add (cx 1 (by rfl)) (pe_callB (call_sum rfl) rfl T.b_sum boot_sum (pa1 (pe_comp ["engine", "hour"] [none, some 0] rfl (piT K (cx 2 (by rfl)) (by rfl)) (BlockScope.of rfl) (fun _ _ _ _ => (pgx 0 (nd_of (by rfl)) (by rfl))) (fun _ _ _ _ => pts_nil) (fun _ _ _ _ => (c_call D_drawn_by (hr.mono (by decide)) rfl (pa2 (cx 0 (by rfl)) (cx 1 (by rfl)) (by rfl)) (by decide) (by rfl) (by rfl))) (by intro _; rfl)) (by rfl)) (by decide) (by decide) (by rfl) (by rfl)))) (by intro _; rfl)) (by rfl)) (by decide) (by decide) (by rfl) (by rfl)))))), ?_⟩
 unfold sp_draws_of at h
 split at h
 ·rename_i v u
  obtain ⟨p, P, S, ok, so, r, ru, q⟩ := h
  refine ⟨p, P, S, ok, so, r, ru, fun H1 s1 => ?_⟩
  obtain ⟨A, B, E, xf, rfl, hA, hB, hE, rf⟩ := Rep.story (Rep.ev (Ev.same s1) _ _ ru)
  obtain ⟨PA, PB, PE, PM, xb, xe, rfl, pA, pB, rb, pE, re, pM⟩ := Rep.plant (Rep.ev (Ev.same s1) _ _ r)
  have x8 := so.x8
  have e4 := ok.e4
  have le := re.len
  rw [List.length_map] at le
  refine ⟨PA, _, 1, .ref PE, rfl, rfl, SqT.of pA, rfl, A, _, 0, .ref B, rfl, rfl, SqT.of hA, rfl, B, rfl, ⟨_, SqT.of hB⟩, walk_enum (xs := S.ex.map V.int) (fun i ys H' => Same H1 H' ∧ ys = ((draws P S).take i).map V.int) (by rw [List.length_map]; omega) ⟨Same.refl _, rfl⟩ (fun i ys H' h => by rw [h.2, List.length_map, List.length_take]; omega) (fun i ys H' h => SqT.of (h.1 _ _ hB)) (fun i x ys H' T hx h hT => ?_) fun ys H' h => ?_⟩
  ·rw [List.getElem?_map] at hx
   cases z : S.ex[i]? with
   | none => rw [z] at hx; cases hx
   | some n =>
    rw [z] at hx
    cases hx
    have s2 : Same H1 (upd H' T (.tup [.int i, .int n])) := h.1.trans (Same.new hT)
    refine ⟨T, _, rfl, SqT.of upd_same, rfl, _, _, rfl, _, _, rfl, rfl, ⟨rfl, trivial⟩, fun _ => ?_, fun z => by cases z⟩
    refine ⟨PE, rfl, ⟨xe, SqT.of (s2 _ _ pE)⟩, walk_tup (xs := xe) (fun j zs H2 => Same H1 H2 ∧ zs = ((P.es.take j).map fun e => drawn e i).map V.int) (by omega) ⟨s2, rfl⟩ (fun j zs H2 h => by rw [h.2, List.length_map, List.length_map, List.length_take]; omega) (fun j zs H2 _ h => SqT.of (h.1 _ _ pE)) (fun j x zs H2 hx h2 => ?_) fun zs H2 h2 => ?_⟩
    ·obtain ⟨f, hf, rd⟩ := Reps.mapGot re hx
     refine ⟨⟨rfl, trivial⟩, fun _ => ⟨p, f, Rep.ev (Ev.same h2.1) _ _ rd, (ok.e f (List.mem_of_getElem? hf)).2.2.2.2.1, h2.1, ?_⟩, fun z => by cases z⟩
     rw [take_next hf, List.map_append, List.map_append, h2.2]; rfl
    ·intro m hm
     refine ⟨m, P.es.map fun e => drawn e i, rfl, ?_, h2.1.trans (Same.new hm), ?_⟩
     ·rw [upd_same, h2.2, List.take_of_length_le (by omega)]
     ·rw [take_next (draws_get z), List.map_append, h.2]; rfl
  ·intro m hm
   refine ⟨m, _, rfl, .inl ⟨SqL.of upd_same, fun t ht => ?_⟩⟩
   refine q _ _ (s1.trans (h.1.trans ((Same.new hm).trans (Same.new ht)))) (Rep.row ?_)
   rw [upd_same, h.2, List.take_of_length_le (by rw [draws_len, List.length_map]; omega)]
 ·exact h.elim
theorem sc_full_firing : FnScope ["plant", "story"] ["plant", "story"] (defScope s_full_firing) := ⟨rfl, rfl, rfl, by decide +kernel, rfl, by decide +kernel, by decide +kernel⟩
theorem ok_full_firing (F : Df K mg "full_firing" s_full_firing ["plant", "story"]) (T : Tx mg) (D_caps_of : Fn P w K mg base 9 "caps_of" ["plant", "story"] sp_caps_of) : Fn P w K mg base 10 "full_firing" ["plant", "story"] sp_full_firing := by
 refine F.fn sc_full_firing (fun vs H Q E h => ?_) (fun f cdv A outer s H vs Q E hr h => ?_)
 ·exact len_full_firing h
 refine ⟨_, (pss_one (ps_ret (c_call D_caps_of (hr.mono (by decide)) rfl (pa2 (cx 0 (by rfl)) (cx 1 (by rfl)) (by rfl)) (by decide) (by rfl) (by rfl)))), ?_⟩
 unfold sp_full_firing sp_caps_of at h
 split at h
 ·exact h
 ·exact h.elim
end
end MF

end

section
namespace MF
open PySem PySem.Spec PyProof.Rows L2
theorem typedB : ∀ {bs : List PyData}, (∀ d ∈ bs, GoodB d) → ∃ l : List (Int × Int), bs = l.map bD ∧ ∀ q ∈ l, 1 ≤ q.1 ∧ q.1 ≤ 9 ∧ 1 ≤ q.2 ∧ q.2 ≤ 9
 | [], _ => ⟨[], rfl, fun _ h => nomatch h⟩
 | d :: ds, h => by
  obtain ⟨l, e, g⟩ := typedB fun x hx => h x (List.mem_cons_of_mem _ hx)
  obtain ⟨m, c, rfl, a1, a2, a3, a4⟩ := h d List.mem_cons_self
  refine ⟨(m, c) :: l, by rw [e]; rfl, fun q hq => ?_⟩
  rcases List.mem_cons.mp hq with rfl | hq
  ·exact ⟨a1, a2, a3, a4⟩
  ·exact g q hq
theorem typedE : ∀ {es : List PyData}, (∀ d ∈ es, GoodE d) → ∃ l : List (Int × Int × Int), es = l.map eD ∧ ∀ q ∈ l, 1 ≤ q.1 ∧ q.1 ≤ 9 ∧ 0 ≤ q.2.1 ∧ q.2.1 ≤ 7 ∧ 1 ≤ q.2.2 ∧ q.2.2 ≤ 8
 | [], _ => ⟨[], rfl, fun _ h => nomatch h⟩
 | d :: ds, h => by
  obtain ⟨l, e, g⟩ := typedE fun x hx => h x (List.mem_cons_of_mem _ hx)
  obtain ⟨m, c, k, rfl, a1, a2, a3, a4, a5, a6⟩ := h d List.mem_cons_self
  refine ⟨(m, c, k) :: l, by rw [e]; rfl, fun q hq => ?_⟩
  rcases List.mem_cons.mp hq with rfl | hq
  ·exact ⟨a1, a2, a3, a4, a5, a6⟩
  ·exact g q hq
theorem GoodP.pl {bs es : List PyData} {lo hi st : Int} (g : GoodP bs es lo hi st) : ∃ P : PL, P.ok ∧ plantD bs es lo hi st = P.d := by
 obtain ⟨lb, rfl, hb⟩ := typedB g.b
 obtain ⟨le, rfl, he⟩ := typedE g.e
 have b1 := g.b1
 have b4 := g.b4
 have e4 := g.e4
 rw [List.length_map] at b1 b4 e4
 exact ⟨⟨lb, le, lo, hi, st⟩, ⟨hb, b1, b4, he, e4, g.lo0, g.ls, g.sh, g.h4⟩, rfl⟩
theorem noMut_row (r : List Int) : noMut (rowD r) = true := by
 unfold noMut
 exact noMuts_all fun d hd => by
  obtain ⟨i, _, rfl⟩ := List.mem_map.mp hd
  rfl
theorem one_if (k : Bool) : 0 < (1 : Int) + (if k = true then 1 else 0) ∧ (1 : Int) + (if k = true then 1 else 0) < 1073741824 := by cases k <;> decide
def GoodF (n h : Nat) (d : PyData) : Prop := ∃ x : FT, d = x.d ∧ x.ok n h
theorem GoodF.nm {n h : Nat} {d : PyData} (g : GoodF n h d) : noMut d = true := by obtain ⟨x, rfl, _⟩ := g; rfl
theorem typedF {n h : Nat} : ∀ {es : List PyData}, (∀ d ∈ es, GoodF n h d) → ∃ l : List FT, es = l.map FT.d ∧ ∀ q ∈ l, q.ok n h
 | [], _ => ⟨[], rfl, fun _ h => nomatch h⟩
 | d :: ds, hh => by
  obtain ⟨l, e, g⟩ := typedF fun x hx => hh x (List.mem_cons_of_mem _ hx)
  obtain ⟨x, rfl, a1⟩ := hh d List.mem_cons_self
  refine ⟨x :: l, by rw [e]; rfl, fun q hq => ?_⟩
  rcases List.mem_cons.mp hq with rfl | hq
  ·exact a1
  ·exact g q hq
def sp__law_story : Sp := fun vs H Q _ => match vs with | [.ref p, v] => Pen p H ∧ ∃ P, PL.ok P ∧ Rep p H P.d v ∧ ∀ u H' S, SY.ok S P.bs.length → Rep p H' S.d u → Ev p H H' → Pen p H' → Q u H' | _ => False
def sp__law_caps : Sp := fun vs H Q _ => match vs with | [v, u] => ∃ p P S, PL.ok P ∧ SY.ok S P.bs.length ∧ Rep p H P.d v ∧ Rep p H S.d u ∧ ret H Q p (capsD P S) | _ => False
section
variable {P : Program} {w : World} {K : PySem.W.Frag} {mg : Str → Option Value} {base : Heap}
theorem sc__law_story : FnScope ["_law_pen_here", "_law_plant_here", "_law_hours", "_law_most", "_law_faults", "_law_turn", "_law_first", "_law_last"] ["_law_pen_here", "_law_plant_here"] (defScope s__law_story) := ⟨rfl, rfl, rfl, by decide +kernel, rfl, by decide +kernel, by decide +kernel⟩
theorem ok__law_story (F : Df K mg "_law_story" s__law_story ["_law_pen_here", "_law_plant_here"]) (T : Tx mg) (D__law_draw : Fn P w K mg base 1 "_law_draw" ["_law_pen_here", "_law_many"] sp__law_draw) : Fn P w K mg base 2 "_law_story" ["_law_pen_here", "_law_plant_here"] sp__law_story := by
 refine F.fn sc__law_story (fun vs H Q E h => ?_) (fun f cdv A outer s H vs Q E hr h => ?_)
 ·unfold sp__law_story at h; split at h; rfl; exact h.elim
 refine ⟨_, (pss_cons (ps_asg (c_tup (pa2 (pe_op o_add pe_int (c_call D__law_draw (hr.mono (by decide)) rfl (pa2 (cx 0 (by rfl)) pe_int (by rfl)) (by decide) (by rfl) (by rfl))) (pe_ix (ixL K (by rfl)) (c_lst (pa4 pe_int pe_int pe_int pe_int (by rfl))) (c_call D__law_draw (hr.mono (by decide)) rfl (pa2 (cx 0 (by rfl)) pe_int (by rfl)) (by decide) (by rfl) (by rfl)) (fun _ _ => rfl)) (by rfl))) (pgT K (n := 2) (pgs_cons (pgx 2 sc__law_story.nd (by rfl)) (pgs_cons (pgx 3 sc__law_story.nd (by rfl)) pgs_nil (by rfl)) (by rfl)) (by rfl) (by rfl) (by rfl) (by rfl)) (by rfl) (by rfl) (by rfl)) (pss_cons (ps_set (i := 4) sc__law_story.nd rfl (loc_of (by rfl)) (c_lst pa_nil) (by rfl) (fl_of (by rfl))) (pss_cons (ps_for PassesOwn.never rfl (pi_range1 rfl T.b_range (pa1 (c_call D__law_draw (hr.mono (by decide)) rfl (pa2 (cx 0 (by rfl)) pe_int (by rfl)) (by decide) (by rfl) (by rfl)) (by rfl)) (by rfl)) (pgx 5 sc__law_story.nd (by rfl)) (pss_cons (ps_set (i := 6) sc__law_story.nd rfl (loc_of (by rfl)) (c_call D__law_draw (hr.mono (by decide)) rfl (pa2 (cx 0 (by rfl)) (cx 2 (by rfl)) (by rfl)) (by decide) (by rfl) (by rfl)) (by rfl) (fl_of (by rfl))) (pss_cons (ps_set (i := 7) sc__law_story.nd rfl (loc_of (by rfl)) (pe_op o_add (cx 6 (by rfl)) (c_call D__law_draw (hr.mono (by decide)) rfl (pa2 (cx 0 (by rfl)) (pe_op o_sub (cx 2 (by rfl)) (cx 6 (by rfl))) (by rfl)) (by decide) (by rfl) (by rfl))) (by rfl) (fl_of (by rfl))) (pss_one (ps_expr (pe_bm PySem.F.plainAttrs_list PySem.F.slot_list_append PySem.F.type_list_append mt_append (cx 4 (by rfl)) (pa1 (c_tup (pa4 (c_call D__law_draw (hr.mono (by decide)) rfl (pa2 (cx 0 (by rfl)) (pe_callB (lenS K (by rfl)) rfl T.b_len PySem.boot_len (pa1 (pe_ix (ixT K (by rfl)) (cx 1 (by rfl)) pe_int (fun _ _ => rfl)) (by rfl)) (by decide) (by decide) (by rfl) (by rfl)) (by rfl)) (by decide) (by rfl) (by rfl)) (pe_ix (ixL K (by rfl)) (c_lst (pa2 pe_str pe_str (by rfl))) (c_call D__law_draw (hr.mono (by decide)) rfl (pa2 (cx 0 (by rfl)) pe_int (by rfl)) (by decide) (by rfl) (by rfl)) (fun _ _ => rfl)) (cx 6 (by rfl)) (cx 7 (by rfl)) (by rfl))) (by rfl)) (by rfl) (by rfl) (by rfl) (by rfl) (by rfl)) (by rfl))))) (by intro _; rfl)) (pss_one (ps_ret (c_tup (pa2 (pe_callTy (tupOf K (by rfl)) rfl T.b_tuple boot_tuple' (pa1 (pe_comp ["_law_hour", "_law_pen_here", "_law_most"] [none, some 0, some 3] rfl (pi_range1 rfl T.b_range (pa1 (cx 2 (by rfl)) (by rfl)) (by rfl)) (BlockScope.of rfl) (fun _ _ _ _ => (pgx 0 (nd_of (by rfl)) (by rfl))) (fun _ _ _ _ => pts_nil) (fun _ _ _ _ => (c_call D__law_draw (hr.mono (by decide)) rfl (pa2 (cx 1 (by rfl)) (cx 2 (by rfl)) (by rfl)) (by decide) (by rfl) (by rfl))) (by intro _; rfl)) (by rfl)) (by decide) (by decide) (by rfl) (by rfl)) (pe_callTy (tupOf K (by rfl)) rfl T.b_tuple boot_tuple' (pa1 (cx 4 (by rfl)) (by rfl)) (by decide) (by decide) (by rfl) (by rfl)) (by rfl)))))))), ?_⟩
 unfold sp__law_story at h
 split at h
 ·rename_i p v
  obtain ⟨pn, P, ok, r, q⟩ := h
  have b1 := ok.b1
  have b4 := ok.b4
  refine ⟨pn, by decide, by decide, fun g1 H1 a1 c1 e1 pn1 l1 hl1 => ⟨pn1.new hl1, by decide, by decide, fun g2 H2 a2 c2 e2 pn2 => ?_⟩⟩
  obtain ⟨mo, hmo, hat⟩ := pick (ns := [1, 4, 9, 21]) a2 (by simpa using c2)
  have hmo' : 1 ≤ mo ∧ mo ≤ 21 := by
   simp only [List.mem_cons, List.not_mem_nil, or_false] at hmo
   omega
  refine ⟨l1, _, g2, .int mo, rfl, rfl, SqL.of (e2.lst upd_same (pn1.ne hl1)), hat, fun l0 hl0 => ⟨l0, _, rfl, SqT.of upd_same, rfl, _, _, rfl, _, _, rfl, rfl, fun b hb => ?_⟩⟩
  have eA : Ev p H (upd H2 l0 (.tup [.int (1 + g1), .int mo])) := e1.trans ((Ev.new hl1).trans (e2.trans (Ev.new hl0)))
  replace pn2 := pn2.new (o := .tup [.int (1 + g1), .int mo]) hl0
  have nb : b ≠ p := pn2.ne hb
  have hbH : H b = none := by
   cases z : H b with
   | none => rfl
   | some o => exact ((eA b o z).elim (fun ⟨x, _⟩ => absurd x nb) fun x => by rw [x] at hb; cases hb)
  refine ⟨pn2.new hb, by decide, by decide, fun g3 H3 a3 c3 e3 pn3 => ⟨g3, rfl, by omega, by omega, for_range (n := g3.toNat) (fun i σ H4 => ∃ t f l, σ = [some (.ref p), some v, some (.int (1 + g1)), some (.int mo), some (.ref b), t, f, l] ∧ Filled (GoodF P.bs.length (1 + g1).toNat) p b H H4 i)
   ⟨_, _, _, rfl, eA.trans ((Ev.new hb).trans e3), pn3, [], [], e3.lst upd_same nb, .nil, (fun _ h => nomatch h), rfl⟩ (fun i σ H4 hi hP => ?_) fun σ H4 hP => ?_⟩⟩
  ·obtain ⟨t, f, l, rfl, ev, pn4, xs, ds, hx, rs, gd, hl⟩ := hP
   refine ⟨pn4, by omega, by omega, fun f1 H5 a5 c5 e5 pn5 => ⟨pn5, by omega, by omega, fun f2 H6 a6 c6 e6 pn6 => ?_⟩⟩
   have e46 : Ev p H4 H6 := e5.trans e6
   obtain ⟨PA, PB, PE, PM, xb, xe, rfl, pA, pB, rb, pE, re, pM⟩ := Rep.plant (Rep.ev (ev.trans e46) _ _ r)
   have lb := rb.len
   rw [List.length_map] at lb
   refine ⟨.inl ⟨rfl, _, SqL.of (e46.lst hx nb)⟩, PA, _, 0, .ref PB, rfl, rfl, SqT.of pA, rfl, PB, xb, rfl, .inr (SqT.of pB), pn6, by omega, by omega, fun f3 H7 a7 c7 e7 pn7 l2 hl2 => ⟨pn7.new hl2, by decide, by decide, fun g4 H8 a8 c8 e8 pn8 => ?_⟩⟩
   have hw : ∃ bb : Bool, atI [V.str "out", .str "scaled"] g4 = some (wV bb) := by
    have : g4 = 0 ∨ g4 = 1 := by omega
    rcases this with rfl | rfl
    ·exact ⟨true, rfl⟩
    ·exact ⟨false, rfl⟩
   obtain ⟨bb, hw⟩ := hw
   refine ⟨l2, _, g4, wV bb, rfl, rfl, SqL.of (e8.lst upd_same (pn7.ne hl2)), hw, fun t1 ht1 => ?_⟩
   have e48 : Ev p H4 H8 := e46.trans (e7.trans ((Ev.new hl2).trans e8))
   refine ⟨b, xs, .ref t1, rfl, rfl, by rw [upd_ne (ne_of_none (e48.lst hx nb) ht1)]; exact e48.lst hx nb, small63 (by rw [← rs.len, hl]; omega), _, _, _, rfl, ?_⟩
   exact Filled.step (fun d h => h.nm) hx rs gd hl e48 nb hbH (ev.trans e48) pn8 ht1 (Rep.tup upd_same (.cons Rep.int (.cons Rep.str (.cons Rep.int (.cons Rep.int .nil))))) ⟨⟨f3, bb, f1, f1 + f2⟩, rfl, ⟨a7, by show f3 < _; omega, a5, by show f1 ≤ f1 + f2; omega, by show f1 + f2 < _; omega⟩⟩
  ·obtain ⟨t, f, l, rfl, fb⟩ := hP
   refine ⟨_, rfl, by omega, by omega, walk_range (n := (1 + g1).toNat) (fun i ys H5 => Ev p H4 H5 ∧ Pen p H5 ∧ ∃ ns : List Int, ys = ns.map V.int ∧ ns.length = i ∧ ∀ u ∈ ns, 0 ≤ u ∧ u ≤ 20) (by omega) ⟨Ev.refl, fb.pen, [], rfl, rfl, (fun _ h => nomatch h)⟩ (fun i ys H5 h => ?_) (fun i ys H5 hi h => ?_) fun ys H5 h => ?_⟩
   ·obtain ⟨_, _, ns, rfl, hn, _⟩ := h
    rw [List.length_map]; omega
   ·obtain ⟨e5, pn5, ns, rfl, hn, hu⟩ := h
    refine ⟨⟨rfl, rfl, trivial⟩, fun _ => ⟨pn5, by omega, by omega, fun g6 H6 a6 c6 e6 pn6 => ⟨e5.trans e6, pn6, ns ++ [g6], by rw [List.map_append]; rfl, by rw [List.length_append, hn]; rfl, fun u hu' => ?_⟩⟩, fun z => by cases z⟩
    rcases List.mem_append.mp hu' with h | h
    ·exact hu u h
    ·rw [List.mem_singleton.mp h]; omega
   ·obtain ⟨e5, pn5, ns, rfl, hn, hu⟩ := h
    intro m hm
    obtain ⟨xs, fs, hb5, rb5, gf, lf⟩ := fb.done nb e5
    refine ⟨m, _, rfl, .inl ⟨SqL.of upd_same, fun t1 ht1 => ⟨b, xs, rfl, .inl ⟨SqL.of ?_, fun t2 ht2 t3 ht3 => ?_⟩⟩⟩⟩
    ·exact ((Same.new hm).trans (Same.new ht1)) _ _ hb5
    ·obtain ⟨lF, rfl, gl⟩ := typedF gf
     rw [List.length_map] at lf
     have s5 : Same H5 (upd (upd (upd (upd H5 m (.lst (ns.map V.int))) t1 (.tup (ns.map V.int))) t2 (.tup xs)) t3 (.tup [.ref t1, .ref t2])) := (Same.new hm).trans ((Same.new ht1).trans ((Same.new ht2).trans (Same.new ht3)))
     refine q _ _ ⟨ns, lF⟩ ⟨by show 1 ≤ ns.length; omega, by show ns.length ≤ 8; omega, hu, by show lF.length ≤ 4; omega, fun x hx => ?_⟩ ?_ ((fb.ev.trans e5).trans (Ev.same s5)) (pn5.same s5)
     ·show x.ok _ ns.length
      rw [hn]; exact gl x hx
     ·refine Rep.tup upd_same (.cons (Rep.row ?_) (.cons (Rep.tup ?_ (Reps.ev (Ev.same s5) _ _ rb5)) .nil))
      ·exact ((Same.new ht2).trans (Same.new ht3)) _ _ upd_same
      ·exact (Same.new ht3) _ _ upd_same
 ·exact h.elim
theorem sc__law_caps : FnScope ["_law_plant_here", "_law_story_here", "_law_rows", "_law_hour", "_law_row", "_law_boiler", "_law_make", "_law_coal", "_law_words"] ["_law_plant_here", "_law_story_here"] (defScope s__law_caps) := ⟨rfl, rfl, rfl, by decide +kernel, rfl, by decide +kernel, by decide +kernel⟩
theorem ok__law_caps (F : Df K mg "_law_caps" s__law_caps ["_law_plant_here", "_law_story_here"]) (T : Tx mg)  : Fn P w K mg base 1 "_law_caps" ["_law_plant_here", "_law_story_here"] sp__law_caps := by
 refine F.fn sc__law_caps (fun vs H Q E h => ?_) (fun f cdv A outer s H vs Q E hr h => ?_)
 ·unfold sp__law_caps at h; split at h; rfl; exact h.elim
 refine ⟨_, (pss_cons (ps_set (i := 2) sc__law_caps.nd rfl (loc_of (by rfl)) (c_lst pa_nil) (by rfl) (fl_of (by rfl))) (pss_cons (ps_for PassesOwn.never rfl (pi_range1 rfl T.b_range (pa1 (pe_callB (lenS K (by rfl)) rfl T.b_len PySem.boot_len (pa1 (pe_ix (ixT K (by rfl)) (cx 1 (by rfl)) pe_int (fun _ _ => rfl)) (by rfl)) (by decide) (by decide) (by rfl) (by rfl)) (by rfl)) (by rfl)) (pgx 3 sc__law_caps.nd (by rfl)) (pss_cons (ps_set (i := 4) sc__law_caps.nd rfl (loc_of (by rfl)) (c_lst pa_nil) (by rfl) (fl_of (by rfl))) (pss_cons (ps_for PassesOwn.never rfl (piET P w K rfl T.b_enumerate (pa1 (pe_ix (ixT K (by rfl)) (cx 0 (by rfl)) pe_int (fun _ _ => rfl)) (by rfl)) (by rfl) (by rfl) (by rfl) (by rfl)) (pgT K (n := 2) (pgs_cons (pgx 5 sc__law_caps.nd (by rfl)) (pgs_cons (pgT K (n := 2) (pgs_cons (pgx 6 sc__law_caps.nd (by rfl)) (pgs_cons (pgx 7 sc__law_caps.nd (by rfl)) pgs_nil (by rfl)) (by rfl)) (by rfl) (by rfl) (by rfl) (by rfl)) pgs_nil (by rfl)) (by rfl)) (by rfl) (by rfl) (by rfl) (by rfl)) (pss_cons (ps_setComp (i := 8) ["_law_one", "_law_word", "_law_first", "_law_last", "_law_boiler", "_law_hour"] [none, none, none, none, some 5, some 3] sc__law_caps.nd rfl (loc_of (by rfl)) rfl (piT K (pe_ix (ixT K (by rfl)) (cx 1 (by rfl)) pe_int (fun _ _ => rfl)) (by rfl)) (BlockScope.of rfl) (fun _ _ _ _ => (pgT K (n := 4) (pgs_cons (pgx 0 (nd_of (by rfl)) (by rfl)) (pgs_cons (pgx 1 (nd_of (by rfl)) (by rfl)) (pgs_cons (pgx 2 (nd_of (by rfl)) (by rfl)) (pgs_cons (pgx 3 (nd_of (by rfl)) (by rfl)) pgs_nil (by rfl)) (by rfl)) (by rfl)) (by rfl)) (by rfl) (by rfl) (by rfl) (by rfl))) (fun _ _ _ _ => (pts_one (PW.pt (c_and (c_cmpT op_eq (cx 0 (by rfl)) (cx 4 (by rfl)) (nomark _)) (c_and (c_cmpT o_le (cx 2 (by rfl)) (cx 5 (by rfl)) (nomark _)) (pw_and1 (c_cmpT o_le (cx 5 (by rfl)) (cx 3 (by rfl)) (nomark _)))))))) (fun _ _ _ _ => (cx 1 (by rfl))) (by rfl) (fl_of (by rfl)) (by intro _; rfl)) (pss_one (ps_expr (pe_bm PySem.F.plainAttrs_list PySem.F.slot_list_append PySem.F.type_list_append mt_append (cx 4 (by rfl)) (pa1 (c_ifE (c_cmpT (inS K (by rfl)) pe_str (cx 8 (by rfl)) (by with_unfolding_all rfl)) pe_int (pe_op o_fdiv (cx 6 (by rfl)) (pe_op o_add pe_int (pe_callTy call_int1 rfl T.b_int L2.boot_int (pa1 (pe_cmpR (inS K (by rfl)) pe_str (cx 8 (by rfl)) (by with_unfolding_all rfl)) (by rfl)) (by decide) (by decide) (by rfl) (by rfl))))) (by rfl)) (by rfl) (by rfl) (by rfl) (by rfl) (by rfl)) (by rfl)))) (by intro _; rfl)) (pss_one (ps_expr (pe_bm PySem.F.plainAttrs_list PySem.F.slot_list_append PySem.F.type_list_append mt_append (cx 2 (by rfl)) (pa1 (pe_callTy (tupOf K (by rfl)) rfl T.b_tuple boot_tuple' (pa1 (cx 4 (by rfl)) (by rfl)) (by decide) (by decide) (by rfl) (by rfl)) (by rfl)) (by rfl) (by rfl) (by rfl) (by rfl) (by rfl)) (by rfl))))) (by intro _; rfl)) (pss_one (ps_ret (pe_callTy (tupOf K (by rfl)) rfl T.b_tuple boot_tuple' (pa1 (cx 2 (by rfl)) (by rfl)) (by decide) (by decide) (by rfl) (by rfl)))))), ?_⟩
 unfold sp__law_caps at h
 split at h
 ·rename_i v u
  obtain ⟨p, P, S, ok, so, r, ru, q⟩ := h
  obtain ⟨A, B, E, xf, rfl, hA, hB, hE, rf⟩ := Rep.story ru
  obtain ⟨PA, PB, PE, PM, xb, xe, rfl, pA, pB, rb, pE, re, pM⟩ := Rep.plant r
  have x8 := so.x8
  have f4 := so.f4
  have b4 := ok.b4
  have lb := rb.len
  rw [List.length_map] at lb
  have lf := rf.len
  rw [List.length_map] at lf
  intro R hR
  have s0 : Same H (upd H R (.lst [])) := Same.new hR
  refine ⟨A, _, 0, .ref B, rfl, rfl, SqT.of (s0 _ _ hA), rfl, B, _, rfl, .inr (SqT.of (s0 _ _ hB)), _, rfl, by omega, by rw [List.length_map]; omega, for_range (n := (S.ex.map V.int).length) (fun i σ H1 => (∃ x3 x4 x5 x6 x7 x8, σ = [some (.ref PA), some (.ref A), some (.ref R), x3, x4, x5, x6, x7, x8]) ∧ Same H H1 ∧ ∃ xs, H1 R = some (.lst xs) ∧ Reps p H1 (((caps P S).take i).map rowD) xs)
   ⟨⟨_, _, _, _, _, _, rfl⟩, s0, [], upd_same, .nil⟩ (fun i σ H1 hi hP => ?_) fun σ H1 hP => ?_⟩
  ·obtain ⟨⟨x3, x4, x5, x6, x7, x8', rfl⟩, s1, xs, hxs, rxs⟩ := hP
   rw [List.length_map] at hi
   have lx := rxs.len
   rw [List.length_map, List.length_take] at lx
   intro b hb
   have sb : Same H1 (upd H1 b (.lst [])) := Same.new hb
   refine ⟨PA, _, 0, .ref PB, rfl, rfl, SqT.of (sb _ _ (s1 _ _ pA)), rfl, PB, rfl, ⟨xb, SqT.of (sb _ _ (s1 _ _ pB))⟩, for_enum (xs := xb) (fun j σ H2 => (∃ y5 y6 y7 y8, σ = [some (.ref PA), some (.ref A), some (.ref R), some (.int (0 + i)), some (.ref b), y5, y6, y7, y8]) ∧ Same H1 H2 ∧ H2 b = some (.lst (((capsIn P.bs S.fs i).take j).map V.int)))
    ⟨⟨_, _, _, _, rfl⟩, sb, upd_same⟩ (fun j σ H2 h => SqT.of (h.2.1 _ _ (s1 _ _ pB))) (fun j x σ H2 T hx h hT => ?_) fun σ H2 h => ?_⟩
   ·obtain ⟨⟨y5, y6, y7, y8, rfl⟩, s2, hb2⟩ := h
    obtain ⟨f, hf, rd⟩ := Reps.mapGot rb hx
    have hj : j < xb.length := (List.getElem?_eq_some_iff.mp hx).1
    have s3 : Same H1 (upd H2 T (.tup [.int j, x])) := s2.trans (Same.new hT)
    have s03 : Same H (upd H2 T (.tup [.int j, x])) := s1.trans s3
    obtain ⟨l, zs, rfl, hl', rz⟩ := Rep.shape (Rep.ev (Ev.same s03) _ _ rd)
    obtain ⟨z1, z2, rfl, r1, r2⟩ := Reps.two rz
    unfold Rep at r1 r2
    subst r1 r2
    refine ⟨T, _, rfl, SqT.of upd_same, rfl, _, _, rfl, _, _, rfl, l, _, rfl, SqT.of hl', rfl, _, _, rfl, _, _, rfl, rfl, rfl, ?_⟩
    refine ⟨A, _, 1, .ref E, rfl, rfl, SqT.of (s03 _ _ hA), rfl, E, rfl, ⟨xf, SqT.of (s03 _ _ hE)⟩, walk_tup (xs := xf) (fun k ys H3 => Same (upd H2 T (.tup [.int j, .ref l])) H3 ∧ ys = (wordsOf (S.fs.take k) j i).map wV) (by omega) ⟨Same.refl _, rfl⟩ (fun k ys H' h => ?_) (fun k ys H' _ h => SqT.of (h.1 _ _ (s03 _ _ hE))) (fun k x ys H' hx h => ?_) fun ys H3 h => ?_⟩
    ·rw [h.2, List.length_map]
     unfold wordsOf
     rw [List.length_map]
     exact Nat.le_trans (List.length_filter_le _ _) (by rw [List.length_take]; omega)
    ·obtain ⟨g, hg, rg⟩ := Reps.mapGot rf hx
     obtain ⟨l2, zs2, rfl, hl2, rz2⟩ := Rep.shape (Rep.ev (Ev.same (s03.trans h.1)) _ _ rg)
     obtain ⟨w1, w2, w3, w4, rfl, r1, r2, r3, r4⟩ := Reps.four rz2
     unfold Rep at r1 r2 r3 r4
     subst r1 r2 r3 r4
     have nx := words_next (b := j) (h := i) hg
     have no : hitF j i g = false → Same (upd H2 T (.tup [.int j, .ref l])) H' ∧ ys = (wordsOf (S.fs.take (k + 1)) j i).map wV := fun e => ⟨h.1, by rw [nx, e, if_neg (by decide)]; exact h.2⟩
     refine ⟨l2, _, rfl, SqT.of hl2, rfl, _, _, rfl, _, _, rfl, _, _, rfl, _, _, rfl, rfl, ⟨rfl, rfl, trivial⟩, rfl, ⟨fun c1 => ⟨fun c2 => ⟨fun c3 => ?_, fun c3 => no ?_⟩, fun c2 => ⟨fun z => (by cases z), fun _ => no ?_⟩⟩, fun c1 => ⟨fun z => (by cases z), fun _ => no ?_⟩⟩⟩
     ·have e : hitF j i g = true := by
       rw [dec_int] at c1
       rw [Int.zero_add] at c2 c3
       unfold hitF; rw [c1, c2, c3]; rfl
      refine ⟨h.1, ?_⟩
      rw [nx, if_pos e, List.map_append, h.2]; rfl
     ·rw [Int.zero_add] at c3
      unfold hitF; rw [c3, Bool.and_false]
     ·rw [Int.zero_add] at c2
      unfold hitF; rw [c2, Bool.and_false, Bool.false_and]
     ·rw [dec_int] at c1
      unfold hitF; rw [c1, Bool.false_and, Bool.false_and]
    ·intro m hm
     have ew : ys = (wordsOf S.fs j i).map wV := by rw [h.2, List.take_of_length_le (by omega)]
     subst ew
     have s4 : Same H2 (upd H3 m (.lst ((wordsOf S.fs j i).map wV))) := (Same.new hT).trans (h.1.trans (Same.new hm))
     have hb4 := s4 _ _ hb2
     have hlen : (((capsIn P.bs S.fs i).take j).map V.int).length < sizeLine := small63 (by rw [List.length_map, List.length_take]; omega)
     refine ⟨.inl ⟨rfl, _, SqL.of hb4⟩, m, _, rfl, .inl (SqL.of upd_same), rfl, flat_words, ⟨fun c => ?_, fun c => ?_⟩⟩
     ·rw [if_neg (by decide), in_out] at c
      refine ⟨b, _, .int 0, rfl, rfl, hb4, hlen, ⟨_, _, _, _, rfl⟩, Same.own (s2.trans s4) hb, ?_⟩
      have e : capU (wordsOf S.fs j i) f.1 = 0 := by unfold capU; rw [if_pos c]
      rw [upd_same, take_next (capsIn_get hf), List.map_append, e]; rfl
     ·rw [if_neg (by decide), in_out] at c
      refine ⟨m, _, rfl, .inl (SqL.of upd_same), rfl, flat_words, .inr ⟨_, rfl, ?_⟩⟩
      have ek : (if (false = true) then !inV (V.str "scaled") ((wordsOf S.fs j i).map wV) else inV (V.str "scaled") ((wordsOf S.fs j i).map wV)) = (wordsOf S.fs j i).any (!·) := by rw [if_neg (by decide)]; exact in_scaled
      have e := capU_of (m := f.1) c
      refine ⟨one_if _, b, _, .int (capU (wordsOf S.fs j i) f.1), rfl, congrArg (fun z => [V.int z]) ((congrArg (fun (k : Bool) => f.1 / (1 + if k = true then 1 else 0)) ek).trans e), hb4, hlen, ⟨_, _, _, _, rfl⟩, Same.own (s2.trans s4) hb, ?_⟩
      rw [upd_same, take_next (capsIn_get hf), List.map_append]; rfl
   ·obtain ⟨⟨y5, y6, y7, y8, rfl⟩, s2, hb2⟩ := h
    rw [List.take_of_length_le (by rw [capsIn_len]; omega)] at hb2
    refine ⟨.inl ⟨rfl, _, SqL.of (s2 _ _ hxs)⟩, b, _, rfl, .inl ⟨SqL.of hb2, fun t ht => ?_⟩⟩
    have s3 : Same H1 (upd H2 t (.tup ((capsIn P.bs S.fs i).map V.int))) := s2.trans (Same.new ht)
    have hR3 := s3 _ _ hxs
    refine ⟨R, xs, .ref t, rfl, rfl, hR3, small63 (by omega), ⟨_, _, _, _, _, _, rfl⟩, Same.own (s1.trans s3) hR, _, upd_same, ?_⟩
    have tv := TEv.upd (zs := xs ++ [.ref t]) hR3
    rw [take_next (caps_get hi), List.map_append]
    refine Reps.snoc (Reps.tev ((Ev.same (p := p) s3).tev.trans tv) _ _ (noMuts_all fun d hd => ?_) rxs) (Rep.tev tv _ _ (noMut_row _) (Rep.row (p := p) upd_same))
    obtain ⟨rr, _, rfl⟩ := List.mem_map.mp hd
    exact noMut_row rr
  ·obtain ⟨⟨x3, x4, x5, x6, x7, x8', rfl⟩, s1, xs, hxs, rxs⟩ := hP
   refine ⟨R, xs, rfl, .inl ⟨SqL.of hxs, fun t ht => q _ _ (s1.trans (Same.new ht)) (Rep.tup upd_same ?_)⟩⟩
   rw [List.take_of_length_le (by rw [caps_len, List.length_map]; exact Nat.le_refl _)] at rxs
   exact Reps.ev (Ev.new ht) _ _ rxs
 ·exact h.elim
end
end MF

end

section
namespace MF
open PySem PySem.Spec PyProof.Rows L2
theorem Rep.terms {p : Addr} {H : Hp} {T : TM} {v : V} (r : Rep p H T.d v) : ∃ A C B D M xc, v = .ref A ∧ H A = some (.tup [.ref C, .ref B, .ref D, .ref M]) ∧ H C = some (.tup xc) ∧ Reps p H (T.cs.map rowD) xc ∧ H B = some (.tup (T.co.map V.int)) ∧ H D = some (.tup (T.ds.map V.int)) ∧ H M = some (.tup [.int T.lo, .int T.hi, .int T.st]) := by
 unfold TM.d at r
 obtain ⟨A, xs, rfl, hA, rs⟩ := Rep.shape r
 obtain ⟨x, y, z, w, rfl, rx, ry, rz, rw⟩ := Reps.four rs
 obtain ⟨C, xc, rfl, hC, rc⟩ := Rep.shape rx
 obtain ⟨B, xb, rfl, hB, rb⟩ := Rep.shape ry
 obtain ⟨D, xd, rfl, hD, rd⟩ := Rep.shape rz
 obtain ⟨M, xm, rfl, hM, rm⟩ := Rep.shape rw
 obtain ⟨m1, m2, m3, rfl, r1, r2, r3⟩ := Reps.three rm
 unfold Rep at r1 r2 r3
 subst r1 r2 r3
 rw [Reps.ints rb] at hB
 rw [Reps.ints rd] at hD
 exact ⟨A, C, B, D, M, xc, rfl, hA, hC, rc, hB, hD, hM⟩
theorem Rep.ofRow' {p : Addr} {H : Hp} {r : List Int} {v : V} (h : Rep p H (rowD r) v) : ∃ A, v = .ref A ∧ H A = some (.tup (r.map V.int)) := by
 obtain ⟨A, xs, rfl, hA, rs⟩ := Rep.shape h
 rw [Reps.ints rs] at hA
 exact ⟨A, rfl, hA⟩
def isCounts (n : Int) (d : PyData) : Bool := isTO d n n && (match d with | .tuple es => es.all isNN | _ => false)
theorem get_at {ns : List Int} {i : Nat} (h : i < ns.length) : atI (ns.map V.int) (i : Int) = some (.int (ns.getD i 0)) := by
 refine atI_nat ?_
 rw [List.getElem?_map, List.getElem?_eq_getElem h, List.getD_eq_getElem?_getD, List.getElem?_eq_getElem h]; rfl
def sp_terms_of : Sp := fun vs H Q _ => match vs with | [v, u] => ∃ p P S, PL.ok P ∧ SY.ok S P.bs.length ∧ Rep p H P.d v ∧ Rep p H S.d u ∧ ret H Q p (terms P S).d | _ => False
def sp_is_counts : Sp := fun vs H Q _ => match vs with | [x, .int m] => ∃ p d, Rep p H d x ∧ m ≤ 1000 ∧ ∀ b H', b = isCounts m d → Same H H' → Q (.bl b) H' | _ => False
def sp_floor_at : Sp := fun vs H Q _ => match vs with | [v, .int h, .int x, .int b] => ∃ p T n, h = ((n : Nat) : Int) ∧ n < T.ds.length ∧ FlOk T ∧ Rep p H T.d v ∧ ∀ H', Same H H' → Q (.int (floorAt T n x b)) H' | _ => False
section
variable {P : Program} {w : World} {K : PySem.W.Frag} {mg : Str → Option Value} {base : Heap}
theorem sc_terms_of : FnScope ["plant", "story", "caps", "coals"] ["plant", "story"] (defScope s_terms_of) := ⟨rfl, rfl, rfl, by decide +kernel, rfl, by decide +kernel, by decide +kernel⟩
theorem ok_terms_of (F : Df K mg "terms_of" s_terms_of ["plant", "story"]) (T : Tx mg) (D_caps_of : Fn P w K mg base 9 "caps_of" ["plant", "story"] sp_caps_of) (D_draws_of : Fn P w K mg base 9 "draws_of" ["plant", "story"] sp_draws_of) : Fn P w K mg base 10 "terms_of" ["plant", "story"] sp_terms_of := by
 refine F.fn sc_terms_of (fun vs H Q E h => ?_) (fun f cdv A outer s H vs Q E hr h => ?_)
 ·unfold sp_terms_of at h; split at h; rfl; exact h.elim
 refine ⟨_, (pss_cons (ps_set (i := 2) sc_terms_of.nd rfl (loc_of (by rfl)) (c_call D_caps_of (hr.mono (by decide)) rfl (pa2 (cx 0 (by rfl)) (cx 1 (by rfl)) (by rfl)) (by decide) (by rfl) (by rfl)) (by rfl) (fl_of (by rfl))) (pss_cons (ps_set (i := 3) sc_terms_of.nd rfl (loc_of (by rfl)) (pe_callTy (tupOf K (by rfl)) rfl T.b_tuple boot_tuple' (pa1 (pe_comp ["make", "coal"] [none, none] rfl (piT K (pe_ix (ixT K (by rfl)) (cx 0 (by rfl)) pe_int (fun _ _ => rfl)) (by rfl)) (BlockScope.of rfl) (fun _ _ _ _ => (pgT K (n := 2) (pgs_cons (pgx 0 (nd_of (by rfl)) (by rfl)) (pgs_cons (pgx 1 (nd_of (by rfl)) (by rfl)) pgs_nil (by rfl)) (by rfl)) (by rfl) (by rfl) (by rfl) (by rfl))) (fun _ _ _ _ => pts_nil) (fun _ _ _ _ => (cx 1 (by rfl))) (by intro _; rfl)) (by rfl)) (by decide) (by decide) (by rfl) (by rfl)) (by rfl) (fl_of (by rfl))) (pss_one (ps_ret (c_tup (pa4 (cx 2 (by rfl)) (cx 3 (by rfl)) (c_call D_draws_of (hr.mono (by decide)) rfl (pa2 (cx 0 (by rfl)) (cx 1 (by rfl)) (by rfl)) (by decide) (by rfl) (by rfl)) (pe_ix (ixT K (by rfl)) (cx 0 (by rfl)) pe_int (fun _ _ => rfl)) (by rfl))))))), ?_⟩
 unfold sp_terms_of at h
 split at h
 ·rename_i v u
  obtain ⟨p, P, S, ok, so, r, ru, q⟩ := h
  refine ⟨p, P, S, ok, so, r, ru, fun cv H1 s1 rc => ?_⟩
  obtain ⟨PA, PB, PE, PM, xb, xe, rfl, pA, pB, rb, pE, re, pM⟩ := Rep.plant (Rep.ev (Ev.same s1) _ _ r)
  have b4 := ok.b4
  have lb := rb.len
  rw [List.length_map] at lb
  refine ⟨PA, _, 0, .ref PB, rfl, rfl, SqT.of pA, rfl, PB, rfl, ⟨xb, SqT.of pB⟩, walk_tup (xs := xb) (fun i ys H' => Same H1 H' ∧ ys = ((P.bs.take i).map fun q => V.int q.2)) (by omega) ⟨Same.refl _, rfl⟩ (fun i ys H' h => by rw [h.2, List.length_map, List.length_take]; omega) (fun i ys H' _ h => SqT.of (h.1 _ _ pB)) (fun i x ys H' hx h => ?_) fun ys H' h => ?_⟩
  ·obtain ⟨f, hf, rd⟩ := Reps.mapGot rb hx
   obtain ⟨l, zs, rfl, hl', rz⟩ := Rep.shape (Rep.ev (Ev.same h.1) _ _ rd)
   obtain ⟨y1, y2, rfl, r1, r2⟩ := Reps.two rz
   unfold Rep at r1 r2
   subst r1 r2
   refine ⟨l, _, rfl, SqT.of hl', rfl, _, _, rfl, _, _, rfl, rfl, trivial, fun _ => ⟨h.1, ?_⟩, fun z => by cases z⟩
   rw [take_next hf, List.map_append, h.2]; rfl
  ·intro m hm
   refine ⟨m, _, rfl, .inl ⟨SqL.of upd_same, fun t ht => ?_⟩⟩
   have nt := Same.new (o := .tup ys) ht
   have s2 := h.1.trans ((Same.new (o := .lst ys) hm).trans nt)
   refine ⟨p, P, S, ok, so, Rep.ev (Ev.same (s1.trans s2)) _ _ r, Rep.ev (Ev.same (s1.trans s2)) _ _ ru, fun dv H3 s3 rd => ?_⟩
   have s13 := s2.trans s3
   refine ⟨PA, _, 2, .ref PM, rfl, rfl, SqT.of (s13 _ _ pA), rfl, fun t2 ht2 => ?_⟩
   have s4 := Same.new (o := .tup [cv, .ref t, dv, .ref PM]) ht2
   have ey : ys = (P.bs.map (·.2)).map V.int := by rw [h.2, List.take_of_length_le (by omega), List.map_map]; rfl
   have ht4 := (s3.trans s4) _ _ (upd_same (H := upd H' m (.lst ys)) (a := t) (o := .tup ys))
   rw [ey] at ht4
   refine q _ _ (s1.trans (s13.trans s4)) (Rep.tup upd_same (.cons (Rep.ev (Ev.same (s13.trans s4)) _ _ rc) (.cons (Rep.row ht4) (.cons (Rep.ev (Ev.same s4) _ _ rd) (.cons (Rep.tup ((s13.trans s4) _ _ pM) (.cons Rep.int (.cons Rep.int (.cons Rep.int .nil)))) .nil)))))
 ·exact h.elim
theorem sc_floor_at : FnScope ["terms", "hour", "price", "behind", "caps", "coals", "draws", "low", "high", "start", "spared", "kept"] ["terms", "hour", "price", "behind"] (defScope s_floor_at) := ⟨rfl, rfl, rfl, by decide +kernel, rfl, by decide +kernel, by decide +kernel⟩
theorem ok_floor_at (F : Df K mg "floor_at" s_floor_at ["terms", "hour", "price", "behind"]) (T : Tx mg)  : Fn P w K mg base 1 "floor_at" ["terms", "hour", "price", "behind"] sp_floor_at := by
 refine F.fn sc_floor_at (fun vs H Q E h => ?_) (fun f cdv A outer s H vs Q E hr h => ?_)
 ·unfold sp_floor_at at h; split at h; rfl; exact h.elim
 refine ⟨_, (pss_cons (ps_asg (cx 0 (by rfl)) (pgT K (n := 4) (pgs_cons (pgx 4 sc_floor_at.nd (by rfl)) (pgs_cons (pgx 5 sc_floor_at.nd (by rfl)) (pgs_cons (pgx 6 sc_floor_at.nd (by rfl)) (pgs_cons (pgT K (n := 3) (pgs_cons (pgx 7 sc_floor_at.nd (by rfl)) (pgs_cons (pgx 8 sc_floor_at.nd (by rfl)) (pgs_cons (pgx 9 sc_floor_at.nd (by rfl)) pgs_nil (by rfl)) (by rfl)) (by rfl)) (by rfl) (by rfl) (by rfl) (by rfl)) pgs_nil (by rfl)) (by rfl)) (by rfl)) (by rfl)) (by rfl) (by rfl) (by rfl) (by rfl)) (by rfl) (by rfl) (by rfl)) (pss_cons (ps_set (i := 10) sc_floor_at.nd rfl (loc_of (by rfl)) (pe_callB (call_sum rfl) rfl T.b_sum boot_sum (pa1 (pe_comp ["cap", "coal", "price"] [none, none, some 2] rfl (piZTT P w K rfl T.b_zip (pa2 (pe_ix (ixT K (by rfl)) (cx 4 (by rfl)) (cx 1 (by rfl)) (fun _ _ => rfl)) (cx 5 (by rfl)) (by rfl)) (by rfl) (by rfl) (by rfl) (by rfl) (by rfl)) (BlockScope.of rfl) (fun _ _ _ _ => (pgT K (n := 2) (pgs_cons (pgx 0 (nd_of (by rfl)) (by rfl)) (pgs_cons (pgx 1 (nd_of (by rfl)) (by rfl)) pgs_nil (by rfl)) (by rfl)) (by rfl) (by rfl) (by rfl) (by rfl))) (fun _ _ _ _ => (pts_one (c_cmpT o_lt (cx 1 (by rfl)) (cx 2 (by rfl)) (nomark _)))) (fun _ _ _ _ => (pe_op o_mul (cx 0 (by rfl)) (pe_op o_sub (cx 1 (by rfl)) (cx 2 (by rfl))))) (by intro _; rfl)) (by rfl)) (by decide) (by decide) (by rfl) (by rfl)) (by rfl) (fl_of (by rfl))) (pss_cons (ps_set (i := 11) sc_floor_at.nd rfl (loc_of (by rfl)) (pe_op o_mul (pe_op o_sub (cx 2 (by rfl)) (cx 3 (by rfl))) (c_ifE (c_cmpT o_gt (cx 2 (by rfl)) (cx 3 (by rfl)) (nomark _)) (cx 7 (by rfl)) (cx 8 (by rfl)))) (by rfl) (fl_of (by rfl))) (pss_one (ps_ret (pe_op o_add (pe_op o_add (pe_op o_mul (cx 2 (by rfl)) (pe_ix (ixT K (by rfl)) (cx 6 (by rfl)) (cx 1 (by rfl)) (fun _ _ => rfl))) (cx 10 (by rfl))) (cx 11 (by rfl)))))))), ?_⟩
 unfold sp_floor_at at h
 split at h
 ·rename_i v hh x b
  obtain ⟨p, T, n, rfl, hn, ok, r, q⟩ := h
  obtain ⟨A, C, B, D, M, xc, rfl, hA, hC, rc, hB, hD, hM⟩ := Rep.terms r
  have l8 := ok.ok.l8
  have lc := ok.ok.lc
  have o4 := ok.o
  have hrow : T.cs[n]? = some (T.cs.getD n []) := by rw [List.getD_eq_getElem?_getD, List.getElem?_eq_getElem (by omega)]; rfl
  obtain ⟨lr, cr⟩ := ok.c _ (List.mem_of_getElem? hrow)
  obtain ⟨y, hy, ry⟩ := rc.get (i := n) (d := rowD (T.cs.getD n [])) (by rw [List.getElem?_map, hrow]; rfl)
  obtain ⟨Cn, rfl, hCn⟩ := Rep.ofRow' ry
  have q' : ∀ H', Same H H' → Q (.int (x * T.ds.getD n 0 + spared (T.cs.getD n []) T.co x + keptAt T.lo T.hi x b)) H' := q
  generalize T.cs.getD n [] = row at hrow lr cr hCn q'
  refine ⟨A, _, rfl, SqT.of hA, rfl, _, _, rfl, _, _, rfl, _, _, rfl, _, _, rfl, M, _, rfl, SqT.of hM, rfl, _, _, rfl, _, _, rfl, _, _, rfl, rfl, rfl, ?_⟩
  refine ⟨C, xc, (n : Int), .ref Cn, rfl, rfl, SqT.of hC, atI_nat hy, Cn, B, rfl, ⟨_, SqT.of hCn⟩, ⟨_, SqT.of hB⟩, walk_zip (xs := row.map V.int) (ys := T.co.map V.int) (fun i zs H' => Same H H' ∧ ∃ ns : List Int, zs = ns.map V.int ∧ ns.length ≤ i ∧ ns.sum = (((row.zip T.co).take i).map (spareOf x)).sum) (by rw [List.length_map]; omega) (by rw [List.length_map, List.length_map]; exact lr) ⟨Same.refl _, [], rfl, Nat.le_refl _, rfl⟩
    (fun i zs H' h => by obtain ⟨_, ns, rfl, hl, _⟩ := h; rw [List.length_map]; exact hl) (fun i zs H' h => ⟨SqT.of (h.1 _ _ hCn), SqT.of (h.1 _ _ hB)⟩) (fun i xx yy zs H' T' hx hy h hT => ?_) fun zs H' h => ?_⟩
  ·rw [List.getElem?_map] at hx hy
   obtain ⟨m, hm, rfl⟩ := Option.map_eq_some_iff.mp hx
   obtain ⟨k, hk, rfl⟩ := Option.map_eq_some_iff.mp hy
   obtain ⟨s0, ns, rfl, hl, hs⟩ := h
   have s2 := s0.trans (Same.new (o := .tup [.int m, .int k]) hT)
   have hz : (row.zip T.co)[i]? = some (m, k) := by rw [List.getElem?_zip_eq_some]; exact ⟨hm, hk⟩
   have bm := cr m (List.mem_of_getElem? hm)
   refine ⟨T', _, rfl, SqT.of upd_same, rfl, _, _, rfl, _, _, rfl, rfl, ⟨rfl, trivial⟩, fun c => ?_, fun c => ?_⟩
   ·refine ⟨.inl ⟨by omega, by omega⟩, s2, ns ++ [m * (k - x)], by rw [List.map_append]; rfl, by rw [List.length_append]; simp; exact hl, ?_⟩
    rw [take_next hz, List.map_append, List.sum_append, List.sum_append, hs]
    have e : spareOf x (m, k) = m * (k - x) := by unfold spareOf; exact if_pos (of_decide_eq_true c)
    simp [e]
   ·refine ⟨s2, ns, rfl, by omega, ?_⟩
    rw [take_next hz, List.map_append, List.sum_append, hs]
    have e : spareOf x (m, k) = 0 := by unfold spareOf; exact if_neg (of_decide_eq_false c)
    simp [e]
  ·obtain ⟨s0, ns, rfl, hl, hs⟩ := h
   intro m hm
   have s2 := s0.trans (Same.new (o := .lst (ns.map V.int)) hm)
   have es : ns.sum = spared row T.co x := by rw [hs, List.take_of_length_le (by rw [List.length_zip, List.length_map]; omega)]; rfl
   refine ⟨m, ns, rfl, upd_same, ?_⟩
   rw [es]
   have h0 := ok.l0
   have h1 := ok.l4
   have h2 := ok.h0
   have h3 := ok.h4
   have bd := ok.d _ (getD_mem (d := 0) hn)
   refine ⟨fun c => ⟨.inr ⟨by omega, by omega⟩, D, _, (n : Int), .int (T.ds.getD n 0), rfl, rfl, SqT.of (s2 _ _ hD), get_at hn, .inr ⟨by omega, by omega⟩, ?_⟩, fun c => ⟨.inr ⟨by omega, by omega⟩, D, _, (n : Int), .int (T.ds.getD n 0), rfl, rfl, SqT.of (s2 _ _ hD), get_at hn, .inr ⟨by omega, by omega⟩, ?_⟩⟩
   ·have e : keptAt T.lo T.hi x b = (x - b) * T.lo := by unfold keptAt; rw [if_pos (of_decide_eq_true c)]
    rw [e] at q'
    exact q' _ s2
   ·have e : keptAt T.lo T.hi x b = (x - b) * T.hi := by unfold keptAt; rw [if_neg (of_decide_eq_false c)]
    rw [e] at q'
    exact q' _ s2
 ·exact h.elim
end
end MF

end

section
namespace MF
open PySem PySem.Spec PyProof.Rows L2
theorem Rep.tailShape {p : Addr} {H : Hp} {f : Int} {ps : List Int} {v : V} (r : Rep p H (tailD f ps) v) : ∃ a b, v = .ref a ∧ H a = some (.tup [.int f, .ref b]) ∧ H b = some (.tup (ps.map V.int)) := by
 obtain ⟨a, xs, rfl, ha, rs⟩ := Rep.shape r
 obtain ⟨x, y, rfl, rx, ry⟩ := Reps.two rs
 unfold Rep at rx
 subst rx
 obtain ⟨b, ys, rfl, hb, rb⟩ := Rep.shape ry
 rw [Reps.ints rb] at hb
 exact ⟨a, b, rfl, ha, hb⟩
theorem tailD_inj {p : Addr} {H : Hp} {f f' : Int} {ps ps' : List Int} {v : V} (r : Rep p H (tailD f ps) v) (r' : Rep p H (tailD f' ps') v) : f = f' := by
 obtain ⟨a, b, rfl, ha, hb⟩ := Rep.tailShape r
 obtain ⟨a', b', e, ha', hb'⟩ := Rep.tailShape r'
 cases e
 rw [ha] at ha'
 injection ha' with e
 injection e with e
 injection e with e1 _
 injection e1
def sp_tails_from : Sp := fun vs H Q _ => match vs with | [v, .int h, .ref d] => ∃ p T n o kvs, FlOk T ∧ h = ((n : Nat) : Int) ∧ n < T.ds.length ∧ Rep p H T.d v ∧ H d = some (.frz o (.dK kvs)) ∧ kvs.length ≤ 5 ∧ TailsAt p H T (n + 1) kvs ∧ ∀ d' H' o' kvs', Same H H' → H' d' = some (.frz o' (.dK kvs')) → kvs'.length ≤ 5 → TailsAt p H' T n kvs' → Q (.ref d') H' | _ => False
def sp_highest_floor : Sp := fun vs H Q _ => match vs with | [v] => ∃ p T, FlOk T ∧ Rep p H T.d v ∧ ∀ u H' f ps, Same H H' → Rep p H' (tailD f ps) u → HiFl T f ps → Q u H' | _ => False
section
variable {P : Program} {w : World} {K : PySem.W.Frag} {mg : Str → Option Value} {base : Heap}
theorem sc_tails_from : FnScope ["terms", "hour", "tails", "caps", "coals", "draws", "main"] ["terms", "hour", "tails"] (defScope s_tails_from) := ⟨rfl, rfl, rfl, by decide +kernel, rfl, by decide +kernel, by decide +kernel⟩
theorem ok_tails_from (F : Df K mg "tails_from" s_tails_from ["terms", "hour", "tails"]) (T : Tx mg) (D_floor_at : Fn P w K mg base 1 "floor_at" ["terms", "hour", "price", "behind"] sp_floor_at) : Fn P w K mg base 2 "tails_from" ["terms", "hour", "tails"] sp_tails_from := by
 refine F.fn sc_tails_from (fun vs H Q E h => ?_) (fun f cdv A outer s H vs Q E hr h => ?_)
 ·unfold sp_tails_from at h; split at h; rfl; exact h.elim
 refine ⟨_, (@pss_cons _ _ _ _ _ (@ps_asg _ _ _ _ _ _ (@cx _ 0 _ _ (by rfl)) (@pgT _ K _ _ _ (4) _ (@pgs_cons _ _ _ _ _ (@pgx _ _ _ 3 sc_tails_from.nd (by rfl)) (@pgs_cons _ _ _ _ _ (@pgx _ _ _ 4 sc_tails_from.nd (by rfl)) (@pgs_cons _ _ _ _ _ (@pgx _ _ _ 5 sc_tails_from.nd (by rfl)) (@pgs_cons _ _ _ _ _ (@pgx _ _ _ 6 sc_tails_from.nd (by rfl)) (@pgs_nil _) (by rfl)) (by rfl)) (by rfl)) (by rfl)) (by rfl) (by rfl) (by rfl) (by rfl)) (by rfl) (by rfl) (by rfl)) (@pss_one _ _ _ (@ps_ret _ _ _ _ (pe_dcomp ["price", "terms", "hour", "tails"] [none, some 0, some 1, some 2] rfl (@piT _ K _ _ _ (@pe_op _ _ _ _ _ _ _ _ (@o_catT _) (@c_tupG _ _ _ _ _ (@pa1 _ _ _ (@pe_int _ _ _ _) (by rfl))) (@cx _ 4 _ _ (by rfl))) (by rfl)) (BlockScope.of rfl) (fun _ _ _ _ => (@pgx _ _ _ 0 (nd_of (by rfl)) (by rfl))) (fun _ _ _ _ => (@pts_nil _)) (fun _ _ _ _ => (@cx _ 0 _ _ (by rfl))) (fun _ _ _ _ => (@pe_callB _ _ _ _ _ _ _ _ _ (call_maxR rfl hr) rfl T.b_max boot_max (@pa1 _ _ _ (@pe_comp _ _ _ _ _ _ _ _ _ _ _ ["behind", "floor", "prices", "terms", "hour", "price"] [none, none, none, some 1, some 2, some 0] rfl (pi_items (@cx _ 3 _ _ (by rfl))) (BlockScope.of rfl) (fun _ _ _ _ => (@pgT _ K _ _ _ (2) _ (@pgs_cons _ _ _ _ _ (@pgx _ _ _ 0 (nd_of (by rfl)) (by rfl)) (@pgs_cons _ _ _ _ _ (@pgT _ K _ _ _ (2) _ (@pgs_cons _ _ _ _ _ (@pgx _ _ _ 1 (nd_of (by rfl)) (by rfl)) (@pgs_cons _ _ _ _ _ (@pgx _ _ _ 2 (nd_of (by rfl)) (by rfl)) (@pgs_nil _) (by rfl)) (by rfl)) (by rfl) (by rfl) (by rfl) (by rfl)) (@pgs_nil _) (by rfl)) (by rfl)) (by rfl) (by rfl) (by rfl) (by rfl))) (fun _ _ _ _ => (@pts_nil _)) (fun _ _ _ _ => (@c_tupG _ _ _ _ _ (@pa2 _ _ _ _ _ (@pe_op _ _ _ _ _ _ _ _ (@o_add _) (@c_call _ _ _ _ _ _ _ _ _ _ D_floor_at (hr.mono (by decide)) rfl (@pa4 _ _ _ _ _ _ _ _ _ (@cx _ 3 _ _ (by rfl)) (@cx _ 4 _ _ (by rfl)) (@cx _ 5 _ _ (by rfl)) (@cx _ 0 _ _ (by rfl)) (by rfl)) (by decide) (by rfl) (by rfl)) (@cx _ 1 _ _ (by rfl))) (@pe_op _ _ _ _ _ _ _ _ (@o_catT _) (@c_tupG _ _ _ _ _ (@pa1 _ _ _ (@cx _ 5 _ _ (by rfl)) (by rfl))) (@cx _ 2 _ _ (by rfl))) (by rfl)))) (by intro _; rfl)) (by rfl)) (by decide) (by decide) (by rfl) (by rfl))))))), ?_⟩
 unfold sp_tails_from at h
 split at h
 ·rename_i v hh d
  obtain ⟨p, T, n, o, kvs, fl, rfl, hn, r, hd, l5, ta, q⟩ := h
  obtain ⟨A, C, B, D, M, xc, rfl, hA, hC, rc, hB, hD, hM⟩ := Rep.terms r
  have o4 := fl.o
  have l8 := fl.ok.l8
  refine ⟨A, _, rfl, SqT.of hA, rfl, _, _, rfl, _, _, rfl, _, _, rfl, _, _, rfl, rfl, ?_⟩
  refine fun t1 H1 s1 k1 => ⟨t1, B, _, _, rfl, rfl, k1, s1 _ _ hB, by rw [List.length_map]; show 1 + _ ≤ 1000; omega, fun t2 H2 s2 k2 => ?_⟩
  have ek : [V.int 0] ++ T.co.map V.int = (0 :: T.co).map V.int := rfl
  rw [ek] at k2
  have s02 := s1.trans s2
  have lc : (0 :: T.co).length ≤ 5 := by rw [List.length_cons]; omega
  have ne : kvs ≠ [] := fun z => by
   obtain ⟨q, hq, _⟩ := ta.all 0 (by unfold KeyAt; split <;> first | rfl | exact List.mem_cons_self)
   rw [z] at hq; cases hq
  refine ⟨t2, rfl, ⟨_, SqT.of k2⟩, walk_tupD (xs := (0 :: T.co).map V.int) (fun i ks H' => Same H2 H' ∧ ks.length ≤ i ∧ (∀ q ∈ ks, ∃ x f ps, q.1 = .inl x ∧ Rep p H' (tailD f ps) q.2 ∧ OneTail T n x f ps) ∧ ∀ x ∈ (0 :: T.co).take i, ∃ q ∈ ks, q.1 = .inl x) (by rw [List.length_map]; omega) ⟨Same.refl _, Nat.zero_le _, (fun _ h => nomatch h), fun x h => (by rw [List.take_zero] at h; cases h)⟩ (fun i ks H' h => h.2.1) (fun i ks H' _ h => SqT.of (h.1 _ _ k2)) (fun i x ks H' hx h => ?_) fun ks H' h => ?_⟩
  ·rw [List.getElem?_map] at hx
   obtain ⟨pr, hpr, rfl⟩ := Option.map_eq_some_iff.mp hx
   have mpr := List.mem_of_getElem? hpr
   obtain ⟨s2', lk, one, all⟩ := h
   have s0 := s02.trans s2'
   have r0 := Rep.ev (Ev.same (p := p) s0) _ _ r
   refine ⟨⟨rfl, rfl, rfl, trivial⟩, fun _ => ?_, fun z => by cases z⟩
   refine ⟨d, o, kvs, rfl, s0 _ _ hd, walk_items (fun j zs H'' => Same H' H'' ∧ ∃ fs : List (Int × List PyData), Reps p H'' (fs.map fun q => .tuple (.int q.1 :: q.2)) zs ∧ fs.length = j ∧ ∀ k q0, k < j → kvs[k]? = some q0 → ∃ fq, fs[k]? = some fq ∧ RowOf p H T (n + 1) (fun b f => floorAt T n pr b + f) (fun ps => pr :: ps) q0 fq) (by omega) ⟨Same.refl _, [], .nil, rfl, (fun k _ h => absurd h (Nat.not_lt_zero k))⟩ (fun j zs H'' h => by obtain ⟨_, fs, rs, lf, _⟩ := h; rw [← rs.len, List.length_map, lf]; exact Nat.le_refl _) (fun j zs H'' h => h.1 _ _ (s0 _ _ hd)) (fun j q0 zs H'' T' hq h hT => ?_) fun zs H'' h => ?_⟩
   ·obtain ⟨s3, fs, rs, lf, hfs⟩ := h
    obtain ⟨b, f, ps, eb, rq, ot⟩ := ta.one q0 (List.mem_of_getElem? hq)
    obtain ⟨kk, y⟩ := q0
    have eb' : kk = .inl b := eb
    subst eb'
    have lps := ot.len
    have sT := Same.new (o := .tup [.int b, y]) hT
    have s4 := s3.trans sT
    have s04 := s0.trans s4
    obtain ⟨l, bb, ey, hl, hbb⟩ := Rep.tailShape (Rep.ev (Ev.same s04) _ _ rq)
    replace ey : y = .ref l := ey
    subst ey
    refine ⟨T', _, rfl, SqT.of upd_same, rfl, _, _, rfl, _, _, rfl, l, _, rfl, SqT.of hl, rfl, _, _, rfl, _, _, rfl, rfl, rfl, ⟨rfl, rfl, rfl, trivial⟩, fun _ => ?_, fun z => by cases z⟩
    have r4 := Rep.ev (Ev.same (p := p) s04) _ _ r
    refine ⟨p, T, n, rfl, hn, fl, r4, fun H5 s5 => fun t6 H6 s6 k6 => ⟨t6, bb, _, _, rfl, rfl, k6, (s5.trans s6) _ _ hbb, by rw [List.length_map]; show 1 + _ ≤ 1000; omega, fun t7 H7 s7 k7 => fun t8 H8 s8 k8 => ?_⟩⟩
    have ek7 : [V.int pr] ++ ps.map V.int = (pr :: ps).map V.int := rfl
    rw [ek7] at k7
    have s58 := s5.trans (s6.trans (s7.trans s8))
    refine ⟨s4.trans s58, fs ++ [(floorAt T n pr b + f, [rowD (pr :: ps)])], ?_, by rw [List.length_append, lf]; rfl, fun k q1 hk hq1 => ?_⟩
    ·rw [List.map_append]
     have s38 : Same H'' H8 := sT.trans s58
     exact Reps.snoc (Reps.ev (Ev.same s38) _ _ rs) (Rep.tup k8 (.cons Rep.int (.cons (Rep.row (s8 _ _ k7)) .nil)))
    ·by_cases z : k < j
     ·obtain ⟨fq, h1, h2⟩ := hfs k q1 z hq1
      exact ⟨fq, by rw [List.getElem?_append_left (by omega)]; exact h1, h2⟩
     ·obtain rfl : k = j := by omega
      rw [hq] at hq1
      cases hq1
      exact ⟨_, by rw [List.getElem?_append_right (by omega), lf, Nat.sub_self]; rfl, b, f, ps, rfl, rq, ot, rfl⟩
   ·obtain ⟨s3, fs, rs, lf, hfs⟩ := h
    intro L hL
    have nL := Same.new (o := .lst zs) hL
    have rsL := Reps.ev (Ev.same (p := p) nL) _ _ rs
    have row : ∀ fq ∈ fs, ∃ q0 ∈ kvs, RowOf p H T (n + 1) (fun b f => floorAt T n pr b + f) (fun ps => pr :: ps) q0 fq := fun fq hfq => by
     obtain ⟨k, hk⟩ := List.getElem?_of_mem hfq
     have hk' := (List.getElem?_eq_some_iff.mp hk).1
     obtain ⟨fq', h1, h2⟩ := hfs k kvs[k] (by omega) (List.getElem?_eq_getElem (by omega))
     rw [hk] at h1; cases h1
     exact ⟨_, List.getElem_mem _, h2⟩
    refine ⟨p, L, fs, zs, rfl, upd_same, rsL, fun z => ne (List.eq_nil_of_length_eq_zero (by rw [z] at lf; exact lf.symm)), fun q1 h1 q2 h2 => ?_, fun i' fq v hfq hv top => ?_⟩
    ·obtain ⟨_, _, b1, f1, ps1, _, _, _, e1⟩ := row q1 h1
     obtain ⟨_, _, b2, f2, ps2, _, _, _, e2⟩ := row q2 h2
     rw [e1, e2]
     exact .cons (.row _ _) .nil
    ·obtain ⟨q0, m0, b, f, ps, eb, rq, ot, rfl⟩ := row fq (List.mem_of_getElem? hfq)
     obtain ⟨v', hv', rv⟩ := rsL.get (i := i') (d := tailD (floorAt T n pr b + f) (pr :: ps)) (by rw [List.getElem?_map, hfq]; rfl)
     rw [hv] at hv'; cases hv'
     have ot' : OneTail T n pr (floorAt T n pr b + f) (pr :: ps) := OneTail.step ta hn mpr ot fun b' f' ps' o1 ⟨q1, m1, e1, r1⟩ => by
      obtain ⟨k, hk⟩ := List.getElem?_of_mem m1
      have hk' := (List.getElem?_eq_some_iff.mp hk).1
      obtain ⟨fq', g1, b2, f2, ps2, e2, r2, o2, rfl⟩ := hfs k q1 hk' hk
      have eb2 : b2 = b' := by rw [e1] at e2; injection e2 with e2; exact e2.symm
      subst eb2
      have ef := tailD_inj r1 r2
      subst ef
      exact top _ (List.mem_of_getElem? g1)
     have s2L := s2'.trans (s3.trans nL)
     refine ⟨.inl pr, rfl, s2L, Nat.le_trans (putK_len _ _ _) (by omega), fun q1 h1 => ?_, fun x hx => ?_⟩
     ·rcases mem_putK h1 with h1 | rfl
      ·obtain ⟨x, f1, ps1, e1, r1, o1⟩ := one q1 h1
       exact ⟨x, f1, ps1, e1, Rep.ev (Ev.same (s3.trans nL)) _ _ r1, o1⟩
      ·exact ⟨pr, _, _, rfl, rv, ot'⟩
     ·rw [take_next hpr] at hx
      rcases List.mem_append.mp hx with hx | hx
      ·obtain ⟨q1, h1, e1⟩ := all x hx
       obtain ⟨q2, h2, e2⟩ := putK_keeps (k := .inl pr) (v := v) h1
       exact ⟨q2, h2, e2.trans e1⟩
      ·rw [List.mem_singleton.mp hx]
       exact putK_has
  ·obtain ⟨s2', lk, one, all⟩ := h
   intro d' o' hd'
   rw [List.length_map] at lk all
   have nd := Same.new (o := .frz o' (.dK ks)) hd'
   refine q d' _ o' ks (s02.trans (s2'.trans nd)) upd_same (by omega) ⟨fun q1 h1 => ?_, fun x hx => ?_⟩
   ·obtain ⟨x, f1, ps1, e1, r1, o1⟩ := one q1 h1
    exact ⟨x, f1, ps1, e1, Rep.ev (Ev.same nd) _ _ r1, o1⟩
   ·unfold KeyAt at hx
    rw [if_neg (by omega)] at hx
    exact all x (by rw [List.take_length]; exact hx)
 ·exact h.elim
theorem sc_highest_floor : FnScope ["terms", "caps", "coals", "draws", "low", "high", "start", "tails", "hour"] ["terms"] (defScope s_highest_floor) := ⟨rfl, rfl, rfl, by decide +kernel, rfl, by decide +kernel, by decide +kernel⟩
theorem ok_highest_floor (F : Df K mg "highest_floor" s_highest_floor ["terms"]) (T : Tx mg) (D_tails_from : Fn P w K mg base 2 "tails_from" ["terms", "hour", "tails"] sp_tails_from) : Fn P w K mg base 3 "highest_floor" ["terms"] sp_highest_floor := by
 refine F.fn sc_highest_floor (fun vs H Q E h => ?_) (fun f cdv A outer s H vs Q E hr h => ?_)
 ·unfold sp_highest_floor at h; split at h; rfl; exact h.elim
 refine ⟨_, (@pss_cons _ _ _ _ _ (@ps_asg _ _ _ _ _ _ (@cx _ 0 _ _ (by rfl)) (@pgT _ K _ _ _ (4) _ (@pgs_cons _ _ _ _ _ (@pgx _ _ _ 1 sc_highest_floor.nd (by rfl)) (@pgs_cons _ _ _ _ _ (@pgx _ _ _ 2 sc_highest_floor.nd (by rfl)) (@pgs_cons _ _ _ _ _ (@pgx _ _ _ 3 sc_highest_floor.nd (by rfl)) (@pgs_cons _ _ _ _ _ (@pgT _ K _ _ _ (3) _ (@pgs_cons _ _ _ _ _ (@pgx _ _ _ 4 sc_highest_floor.nd (by rfl)) (@pgs_cons _ _ _ _ _ (@pgx _ _ _ 5 sc_highest_floor.nd (by rfl)) (@pgs_cons _ _ _ _ _ (@pgx _ _ _ 6 sc_highest_floor.nd (by rfl)) (@pgs_nil _) (by rfl)) (by rfl)) (by rfl)) (by rfl) (by rfl) (by rfl) (by rfl)) (@pgs_nil _) (by rfl)) (by rfl)) (by rfl)) (by rfl)) (by rfl) (by rfl) (by rfl) (by rfl)) (by rfl) (by rfl) (by rfl)) (@pss_cons _ _ _ _ _ (@ps_set _ _ (7) _ _ _ _ sc_highest_floor.nd rfl (loc_of (by rfl)) (c_dictV (@c_tupG _ _ _ _ _ (@pa2 _ _ _ _ _ (@pe_int _ _ _ _) (@c_tupG _ _ _ _ _ (@pa_nil _)) (by rfl)))) (by rfl) (fl_of (by rfl))) (@pss_cons _ _ _ _ _ (@ps_for _ _ _ _ _ _ _ _ PassesOwn.never rfl (pi_revRange rfl T.b_reversed rfl T.b_range (@pa1 _ _ _ (@pe_callB _ _ _ _ _ _ _ _ _ (@lenS _ K (by rfl)) rfl T.b_len PySem.boot_len (@pa1 _ _ _ (@cx _ 3 _ _ (by rfl)) (by rfl)) (by decide) (by decide) (by rfl) (by rfl)) (by rfl))) (@pgx _ _ _ 8 sc_highest_floor.nd (by rfl)) (@pss_one _ _ _ (@ps_set _ _ (7) _ _ _ _ sc_highest_floor.nd rfl (loc_of (by rfl)) (@c_call _ _ _ _ _ _ _ _ _ _ D_tails_from (hr.mono (by decide)) rfl (@pa3 _ _ _ _ _ _ _ (@cx _ 0 _ _ (by rfl)) (@cx _ 8 _ _ (by rfl)) (@cx _ 7 _ _ (by rfl)) (by rfl)) (by decide) (by rfl) (by rfl)) (by rfl) (fl_of (by rfl)))) (by intro _; rfl)) (@pss_one _ _ _ (@ps_ret _ _ _ _ (@pe_callB _ _ _ _ _ _ _ _ _ (call_maxR rfl hr) rfl T.b_max boot_max (@pa1 _ _ _ (@pe_comp _ _ _ _ _ _ _ _ _ _ _ ["price", "floor", "prices", "start"] [none, none, none, some 6] rfl (pi_items (@cx _ 7 _ _ (by rfl))) (BlockScope.of rfl) (fun _ _ _ _ => (@pgT _ K _ _ _ (2) _ (@pgs_cons _ _ _ _ _ (@pgx _ _ _ 0 (nd_of (by rfl)) (by rfl)) (@pgs_cons _ _ _ _ _ (@pgT _ K _ _ _ (2) _ (@pgs_cons _ _ _ _ _ (@pgx _ _ _ 1 (nd_of (by rfl)) (by rfl)) (@pgs_cons _ _ _ _ _ (@pgx _ _ _ 2 (nd_of (by rfl)) (by rfl)) (@pgs_nil _) (by rfl)) (by rfl)) (by rfl) (by rfl) (by rfl) (by rfl)) (@pgs_nil _) (by rfl)) (by rfl)) (by rfl) (by rfl) (by rfl) (by rfl))) (fun _ _ _ _ => (@pts_nil _)) (fun _ _ _ _ => (@c_tupG _ _ _ _ _ (@pa2 _ _ _ _ _ (@pe_op _ _ _ _ _ _ _ _ (@o_sub _) (@cx _ 1 _ _ (by rfl)) (@pe_op _ _ _ _ _ _ _ _ (@o_mul _) (@cx _ 0 _ _ (by rfl)) (@cx _ 3 _ _ (by rfl)))) (@cx _ 2 _ _ (by rfl)) (by rfl)))) (by intro _; rfl)) (by rfl)) (by decide) (by decide) (by rfl) (by rfl))))))), ?_⟩
 unfold sp_highest_floor at h
 split at h
 ·rename_i v
  obtain ⟨p, T, fl, r, q⟩ := h
  obtain ⟨A, C, B, D, M, xc, rfl, hA, hC, rc, hB, hD, hM⟩ := Rep.terms r
  have l8 := fl.ok.l8
  refine ⟨A, _, rfl, SqT.of hA, rfl, _, _, rfl, _, _, rfl, _, _, rfl, _, _, rfl, M, _, rfl, SqT.of hM, rfl, _, _, rfl, _, _, rfl, _, _, rfl, rfl, rfl, ?_⟩
  refine fun t1 H1 s1 k1 => fun t2 H2 s2 k2 => fun d0 o0 hd0 => ?_
  have n0 := Same.new (o := .frz o0 (.dK [(.inl 0, .ref t2)])) hd0
  have r2 : Rep p H2 (tailD 0 []) (.ref t2) := Rep.tup k2 (.cons Rep.int (.cons (Rep.tup (s2 _ _ k1) .nil) .nil))
  have ta0 := (tails_start (T := T) r2).same n0
  have s3 := s1.trans (s2.trans n0)
  have kd0 : upd H2 d0 (.frz o0 (.dK [(.inl 0, .ref t2)])) d0 = some (.frz o0 (.dK [(.inl 0, .ref t2)])) := upd_same
  generalize upd H2 d0 (.frz o0 (.dK [(.inl 0, .ref t2)])) = H3 at s3 ta0 kd0 ⊢
  refine ⟨D, _, rfl, .inr (SqT.of (s3 _ _ hD)), _, rfl, by omega, by rw [List.length_map]; omega, for_rangeS (fun i σ H' => ∃ x8 d o kvs, σ = [some (.ref A), some (.ref C), some (.ref B), some (.ref D), some (.int T.lo), some (.int T.hi), some (.int T.st), some (.ref d), x8] ∧ i ≤ T.ds.length ∧ Same H H' ∧ H' d = some (.frz o (.dK kvs)) ∧ kvs.length ≤ 5 ∧ TailsAt p H' T (T.ds.length - i) kvs) ⟨_, d0, o0, _, rfl, Nat.zero_le _, s3, kd0, by show 1 ≤ 5; decide, ta0⟩ (fun i σ H' hi h => ?_) fun σ H' h => ?_⟩
  ·obtain ⟨x8, d, o, kvs, rfl, hi', s', kd, l5, ta⟩ := h
   have hi2 : i < T.ds.length := by rw [List.length_map] at hi; omega
   refine ⟨p, T, T.ds.length - (i + 1), o, kvs, fl, by rw [List.length_map]; omega, by omega, Rep.ev (Ev.same s') _ _ r, kd, l5, by rw [show T.ds.length - (i + 1) + 1 = T.ds.length - i by omega]; exact ta, fun d' H4 o' kvs' s4 kd' l5' ta' => ⟨_, d', o', kvs', rfl, by omega, s'.trans s4, kd', l5', ta'⟩⟩
  ·obtain ⟨x8, d, o, kvs, rfl, hi', s', kd, l5, ta⟩ := h
   have e0 : T.ds.length - ((T.ds.map V.int).length : Int).toNat = 0 := by rw [List.length_map]; omega
   rw [e0] at ta
   have ne : kvs ≠ [] := fun z => by
    obtain ⟨q, hq, _⟩ := ta.all 0 (by unfold KeyAt; split <;> first | rfl | exact List.mem_cons_self)
    rw [z] at hq; cases hq
   have h0 := fl.s0
   have h4 := fl.s4
   refine ⟨d, o, kvs, rfl, kd, walk_items (fun j zs H'' => Same H' H'' ∧ ∃ fs : List (Int × List PyData), Reps p H'' (fs.map fun q => .tuple (.int q.1 :: q.2)) zs ∧ fs.length = j ∧ ∀ k q0, k < j → kvs[k]? = some q0 → ∃ fq, fs[k]? = some fq ∧ RowOf p H' T 0 (fun b f => f - b * T.st) (fun ps => ps) q0 fq) (by omega) ⟨Same.refl _, [], .nil, rfl, (fun k _ h => absurd h (Nat.not_lt_zero k))⟩ (fun j zs H'' h => by obtain ⟨_, fs, rs, lf, _⟩ := h; rw [← rs.len, List.length_map, lf]; exact Nat.le_refl _) (fun j zs H'' h => h.1 _ _ kd) (fun j q0 zs H'' T' hq h hT => ?_) fun zs H'' h => ?_⟩
   ·obtain ⟨s3, fs, rs, lf, hfs⟩ := h
    obtain ⟨b, f, ps, eb, rq, ot⟩ := ta.one q0 (List.mem_of_getElem? hq)
    obtain ⟨kk, y⟩ := q0
    have eb' : kk = .inl b := eb
    subst eb'
    obtain ⟨l, bb, ey, hl0, hbb0⟩ := Rep.tailShape (Rep.ev (Ev.same s3) _ _ rq)
    replace ey : y = .ref l := ey
    subst ey
    have sT := Same.new (o := .tup [.int b, .ref l]) hT
    have s4 := s3.trans sT
    have hl := sT _ _ hl0
    have hbb := sT _ _ hbb0
    refine ⟨T', _, rfl, SqT.of upd_same, rfl, _, _, rfl, _, _, rfl, l, _, rfl, SqT.of hl, rfl, _, _, rfl, _, _, rfl, rfl, rfl, ⟨rfl, trivial⟩, fun _ => ?_, fun z => by cases z⟩
    refine ⟨.inr ⟨Int.lt_of_lt_of_le (by decide) h0, Int.lt_of_le_of_lt h4 (by decide)⟩, fun t8 H8 s8 k8 => ?_⟩
    refine ⟨s4.trans s8, fs ++ [(f - b * T.st, [rowD ps])], ?_, by rw [List.length_append, lf]; rfl, fun k q1 hk hq1 => ?_⟩
    ·rw [List.map_append]
     exact Reps.snoc (Reps.ev (Ev.same (sT.trans s8)) _ _ rs) (Rep.tup k8 (.cons Rep.int (.cons (Rep.row (s8 _ _ hbb)) .nil)))
    ·by_cases z : k < j
     ·obtain ⟨fq, h1, h2⟩ := hfs k q1 z hq1
      exact ⟨fq, by rw [List.getElem?_append_left (by omega)]; exact h1, h2⟩
     ·obtain rfl : k = j := by omega
      rw [hq] at hq1
      cases hq1
      exact ⟨_, by rw [List.getElem?_append_right (by omega), lf, Nat.sub_self]; rfl, b, f, ps, rfl, rq, ot, rfl⟩
   ·obtain ⟨s3, fs, rs, lf, hfs⟩ := h
    intro L hL
    have nL := Same.new (o := .lst zs) hL
    have rsL := Reps.ev (Ev.same (p := p) nL) _ _ rs
    have row : ∀ fq ∈ fs, ∃ q0 ∈ kvs, RowOf p H' T 0 (fun b f => f - b * T.st) (fun ps => ps) q0 fq := fun fq hfq => by
     obtain ⟨k, hk⟩ := List.getElem?_of_mem hfq
     have hk' := (List.getElem?_eq_some_iff.mp hk).1
     obtain ⟨fq', h1, h2⟩ := hfs k kvs[k] (by omega) (List.getElem?_eq_getElem (by omega))
     rw [hk] at h1; cases h1
     exact ⟨_, List.getElem_mem _, h2⟩
    refine ⟨p, L, fs, zs, rfl, upd_same, rsL, fun z => ne (List.eq_nil_of_length_eq_zero (by rw [z] at lf; exact lf.symm)), fun q1 h1 q2 h2 => ?_, fun i' fq v hfq hv top => ?_⟩
    ·obtain ⟨_, _, b1, f1, ps1, _, _, _, e1⟩ := row q1 h1
     obtain ⟨_, _, b2, f2, ps2, _, _, _, e2⟩ := row q2 h2
     rw [e1, e2]
     exact .cons (.row _ _) .nil
    ·obtain ⟨q0, m0, b, f, ps, eb, rq, ot, rfl⟩ := row fq (List.mem_of_getElem? hfq)
     obtain ⟨v', hv', rv⟩ := rsL.get (i := i') (d := tailD (f - b * T.st) ps) (by rw [List.getElem?_map, hfq]; rfl)
     rw [hv] at hv'; cases hv'
     refine q _ _ _ ps (s'.trans (s3.trans nL)) rv (hiFl_of ta ot fun x' f' ps' o1 ⟨q1, m1, e1, r1⟩ => ?_)
     obtain ⟨k, hk⟩ := List.getElem?_of_mem m1
     have hk' := (List.getElem?_eq_some_iff.mp hk).1
     obtain ⟨fq', g1, b2, f2, ps2, e2, r2, o2, rfl⟩ := hfs k q1 hk' hk
     have eb2 : b2 = x' := by rw [e1] at e2; injection e2 with e2; exact e2.symm
     subst eb2
     have ef := tailD_inj r1 r2
     subst ef
     exact top _ (List.mem_of_getElem? g1)
 ·exact h.elim
end
end MF

end

section
namespace MF
open PySem PySem.Spec PyProof.Rows L2
theorem Rep.intE {p : Addr} {H : Hp} {a b : Int} (h : b = a) : Rep p H (.int a) (.int b) := by subst h; exact Rep.int
theorem Rep.pair {p : Addr} {H : Hp} {q : Nat × Nat} {v : V} (r : Rep p H (pD q) v) : ∃ A, v = .ref A ∧ H A = some (.tup [.int q.1, .int q.2]) := by
 obtain ⟨A, xs, rfl, hA, rs⟩ := Rep.shape r
 obtain ⟨x, y, rfl, rx, ry⟩ := Reps.two rs
 unfold Rep at rx ry
 subst rx ry
 exact ⟨A, rfl, hA⟩
theorem cut_take {xs : List V} {i : Nat} (h : i ≤ xs.length) : cutV xs none (some (i : Int)) = xs.take i := by
 unfold cutV HT.sIx
 dsimp only
 rw [if_neg (by omega), List.drop_zero, Nat.sub_zero, Int.toNat_natCast, Nat.min_eq_left h]
def sp_is_too_much : Sp := fun vs H Q _ => match vs with | [v, u] => ∃ p T f l, TM.ok T ∧ Rep p H T.d v ∧ Rep p H (pD (f, l)) u ∧ f ≤ l ∧ l < T.ds.length ∧ ∀ H', Same H H' → Q (.bl (tooMuch T f l)) H' | _ => False
def sp_least_stretch : Sp := fun vs H Q _ => match vs with | [v] => ∃ p T, TM.ok T ∧ Rep p H T.d v ∧ ret H Q p (strD (leastStr T)) | _ => False
def sp_coal_under : Sp := fun vs H Q _ => match vs with | [v] => ∃ p T, FlOk T ∧ Rep p H T.d v ∧ (leastStr T ≠ none → ∀ H', Same H H' → Q .non H') ∧ (leastStr T = none → ∀ f ps H', HiFl T f ps → Same H H' → Q (.int f) H') | _ => False
section
variable {P : Program} {w : World} {K : PySem.W.Frag} {mg : Str → Option Value} {base : Heap}
theorem sc_is_too_much : FnScope ["terms", "stretch", "caps", "coals", "draws", "low", "high", "start", "first", "last", "ahead", "most"] ["terms", "stretch"] (defScope s_is_too_much) := ⟨rfl, rfl, rfl, by decide +kernel, rfl, by decide +kernel, by decide +kernel⟩
theorem ok_is_too_much (F : Df K mg "is_too_much" s_is_too_much ["terms", "stretch"]) (T : Tx mg)  : Fn P w K mg base 1 "is_too_much" ["terms", "stretch"] sp_is_too_much := by
 refine F.fn sc_is_too_much (fun vs H Q E h => ?_) (fun f cdv A outer s H vs Q E hr h => ?_)
 ·unfold sp_is_too_much at h; split at h; rfl; exact h.elim
 refine ⟨_, (pss_cons (ps_asg (cx 0 (by rfl)) (pgT K (n := 4) (pgs_cons (pgx 2 sc_is_too_much.nd (by rfl)) (pgs_cons (pgx 3 sc_is_too_much.nd (by rfl)) (pgs_cons (pgx 4 sc_is_too_much.nd (by rfl)) (pgs_cons (pgT K (n := 3) (pgs_cons (pgx 5 sc_is_too_much.nd (by rfl)) (pgs_cons (pgx 6 sc_is_too_much.nd (by rfl)) (pgs_cons (pgx 7 sc_is_too_much.nd (by rfl)) pgs_nil (by rfl)) (by rfl)) (by rfl)) (by rfl) (by rfl) (by rfl) (by rfl)) pgs_nil (by rfl)) (by rfl)) (by rfl)) (by rfl)) (by rfl) (by rfl) (by rfl) (by rfl)) (by rfl) (by rfl) (by rfl)) (pss_cons (ps_asg (cx 1 (by rfl)) (pgT K (n := 2) (pgs_cons (pgx 8 sc_is_too_much.nd (by rfl)) (pgs_cons (pgx 9 sc_is_too_much.nd (by rfl)) pgs_nil (by rfl)) (by rfl)) (by rfl) (by rfl) (by rfl) (by rfl)) (by rfl) (by rfl) (by rfl)) (pss_cons (ps_set (i := 10) sc_is_too_much.nd rfl (loc_of (by rfl)) (c_ifE (c_cmpT op_eq (cx 8 (by rfl)) pe_int (nomark _)) (cx 7 (by rfl)) (cx 6 (by rfl))) (by rfl) (fl_of (by rfl))) (pss_cons (ps_set (i := 11) sc_is_too_much.nd rfl (loc_of (by rfl)) (pe_callB (call_sumS rfl) rfl T.b_sum boot_sum (pa1 (pe_comp ["row"] [none] rfl (piT K (pe_slice s_tup (cx 2 (by rfl)) (po_some (cx 8 (by rfl))) (po_some (pe_op o_add (cx 9 (by rfl)) pe_int))) (by rfl)) (BlockScope.of rfl) (fun _ _ _ _ => (pgx 0 (nd_of (by rfl)) (by rfl))) (fun _ _ _ _ => pts_nil) (fun _ _ _ _ => (pe_callB (call_sumS rfl) rfl T.b_sum boot_sum (pa1 (cx 0 (by rfl)) (by rfl)) (by decide) (by decide) (by rfl) (by rfl))) (by intro _; rfl)) (by rfl)) (by decide) (by decide) (by rfl) (by rfl)) (by rfl) (fl_of (by rfl))) (pss_one (ps_ret (pe_cmpR o_lt (pe_op o_add (cx 10 (by rfl)) (cx 11 (by rfl))) (pe_op o_add (pe_callB (call_sumS rfl) rfl T.b_sum boot_sum (pa1 (pe_slice s_tup (cx 4 (by rfl)) (po_some (cx 8 (by rfl))) (po_some (pe_op o_add (cx 9 (by rfl)) pe_int))) (by rfl)) (by decide) (by decide) (by rfl) (by rfl)) (cx 5 (by rfl))) (nomark _)))))))), ?_⟩
 unfold sp_is_too_much at h
 split at h
 ·rename_i v u
  obtain ⟨p, T, f, l, ok, r, ru, hfl, hl, q⟩ := h
  obtain ⟨A, C, B, D, M, xc, rfl, hA, hC, rc, hB, hD, hM⟩ := Rep.terms r
  obtain ⟨U, rfl, hU⟩ := Rep.pair ru
  have l8 := ok.l8
  have lc := ok.lc
  have lx := rc.len
  rw [List.length_map] at lx
  refine ⟨A, _, rfl, SqT.of hA, rfl, _, _, rfl, _, _, rfl, _, _, rfl, _, _, rfl, M, _, rfl, SqT.of hM, rfl, _, _, rfl, _, _, rfl, _, _, rfl, rfl, rfl, ?_⟩
  refine ⟨U, _, rfl, SqT.of hU, rfl, _, _, rfl, _, _, rfl, rfl, rfl, ⟨fun c => ?_, fun c => ?_⟩⟩
  ·have ea : (if f = 0 then T.st else T.hi) = T.st := by
    rw [dec_int] at c
    have : (f : Int) = 0 := by simpa using c
    rw [if_pos (by omega)]
   refine ⟨(f : Int), rfl, (l : Int) + 1, rfl, C, xc, rfl, hC, fun R H1 s1 k1 => ?_⟩
   rw [cut_part hfl (by omega)] at k1
   have rp := Reps.part (Reps.ev (Ev.same s1) _ _ rc) f l
   rw [part_map] at rp
   have lp := part_len (xs := T.cs) hfl (by omega)
   have lq := rp.len
   rw [List.length_map] at lq
   refine ⟨R, rfl, ⟨_, SqT.of k1⟩, walk_tup (xs := part xc f l) (fun i ys H' => Same H1 H' ∧ ys = (((part T.cs f l).take i).map List.sum).map V.int) (by omega) ⟨Same.refl _, rfl⟩ (fun i ys H' h => by rw [h.2, List.length_map, List.length_map, List.length_take]; omega) (fun i ys H' _ h => SqT.of (h.1 _ _ k1)) (fun i x ys H' hx h => ?_) fun ys H2 h => ?_⟩
   ·obtain ⟨r', hr', rr⟩ := Reps.mapGot rp hx
    obtain ⟨ra, rfl, hra⟩ := Rep.ofRow' rr
    refine ⟨trivial, fun _ => ⟨ra, r', rfl, .inr (h.1 _ _ hra), h.1, ?_⟩, fun z => by cases z⟩
    rw [take_next hr', List.map_append, List.map_append, h.2]; rfl
   ·intro m hm
    have s2 := s1.trans (h.1.trans (Same.new (o := .lst ys) hm))
    refine ⟨m, (part T.cs f l).map List.sum, rfl, .inl ?_, ?_⟩
    ·rw [upd_same, h.2, List.take_of_length_le (by omega)]
    refine ⟨(f : Int), rfl, (l : Int) + 1, rfl, D, T.ds.map V.int, rfl, s2 _ _ hD, fun R2 H3 s3 k3 => ?_⟩
    rw [cut_part hfl (by rw [List.length_map]; exact hl), part_map] at k3
    refine ⟨R2, part T.ds f l, rfl, .inr k3, ?_⟩
    have := q H3 (s2.trans s3)
    unfold tooMuch at this
    rw [ea] at this
    exact this
  ·have ea : (if f = 0 then T.st else T.hi) = T.hi := by
    rw [dec_int] at c
    have : (f : Int) ≠ 0 := by simpa using c
    rw [if_neg (by omega)]
   refine ⟨(f : Int), rfl, (l : Int) + 1, rfl, C, xc, rfl, hC, fun R H1 s1 k1 => ?_⟩
   rw [cut_part hfl (by omega)] at k1
   have rp := Reps.part (Reps.ev (Ev.same s1) _ _ rc) f l
   rw [part_map] at rp
   have lp := part_len (xs := T.cs) hfl (by omega)
   have lq := rp.len
   rw [List.length_map] at lq
   refine ⟨R, rfl, ⟨_, SqT.of k1⟩, walk_tup (xs := part xc f l) (fun i ys H' => Same H1 H' ∧ ys = (((part T.cs f l).take i).map List.sum).map V.int) (by omega) ⟨Same.refl _, rfl⟩ (fun i ys H' h => by rw [h.2, List.length_map, List.length_map, List.length_take]; omega) (fun i ys H' _ h => SqT.of (h.1 _ _ k1)) (fun i x ys H' hx h => ?_) fun ys H2 h => ?_⟩
   ·obtain ⟨r', hr', rr⟩ := Reps.mapGot rp hx
    obtain ⟨ra, rfl, hra⟩ := Rep.ofRow' rr
    refine ⟨trivial, fun _ => ⟨ra, r', rfl, .inr (h.1 _ _ hra), h.1, ?_⟩, fun z => by cases z⟩
    rw [take_next hr', List.map_append, List.map_append, h.2]; rfl
   ·intro m hm
    have s2 := s1.trans (h.1.trans (Same.new (o := .lst ys) hm))
    refine ⟨m, (part T.cs f l).map List.sum, rfl, .inl ?_, ?_⟩
    ·rw [upd_same, h.2, List.take_of_length_le (by omega)]
    refine ⟨(f : Int), rfl, (l : Int) + 1, rfl, D, T.ds.map V.int, rfl, s2 _ _ hD, fun R2 H3 s3 k3 => ?_⟩
    rw [cut_part hfl (by rw [List.length_map]; exact hl), part_map] at k3
    refine ⟨R2, part T.ds f l, rfl, .inr k3, ?_⟩
    have := q H3 (s2.trans s3)
    unfold tooMuch at this
    rw [ea] at this
    exact this
 ·exact h.elim
theorem sc_least_stretch : FnScope ["terms", "caps", "coals", "draws", "main", "hours", "stretches", "found"] ["terms"] (defScope s_least_stretch) := ⟨rfl, rfl, rfl, by decide +kernel, rfl, by decide +kernel, by decide +kernel⟩
theorem ok_least_stretch (F : Df K mg "least_stretch" s_least_stretch ["terms"]) (T : Tx mg) (D_is_too_much : Fn P w K mg base 1 "is_too_much" ["terms", "stretch"] sp_is_too_much) : Fn P w K mg base 2 "least_stretch" ["terms"] sp_least_stretch := by
 refine F.fn sc_least_stretch (fun vs H Q E h => ?_) (fun f cdv A outer s H vs Q E hr h => ?_)
 ·unfold sp_least_stretch at h; split at h; rfl; exact h.elim
 refine ⟨_, (pss_cons (ps_asg (cx 0 (by rfl)) (pgT K (n := 4) (pgs_cons (pgx 1 sc_least_stretch.nd (by rfl)) (pgs_cons (pgx 2 sc_least_stretch.nd (by rfl)) (pgs_cons (pgx 3 sc_least_stretch.nd (by rfl)) (pgs_cons (pgx 4 sc_least_stretch.nd (by rfl)) pgs_nil (by rfl)) (by rfl)) (by rfl)) (by rfl)) (by rfl) (by rfl) (by rfl) (by rfl)) (by rfl) (by rfl) (by rfl)) (pss_cons (ps_set (i := 5) sc_least_stretch.nd rfl (loc_of (by rfl)) (pe_callB (lenS K (by rfl)) rfl T.b_len PySem.boot_len (pa1 (cx 3 (by rfl)) (by rfl)) (by decide) (by decide) (by rfl) (by rfl)) (by rfl) (fl_of (by rfl))) (pss_cons (ps_setComp2 (i := 6) ["first", "last", "hours"] [none, none, some 5] sc_least_stretch.nd rfl (loc_of (by rfl)) rfl (pi_range1 rfl T.b_range (pa1 (cx 5 (by rfl)) (by rfl)) (by rfl)) (BlockScope.of rfl) (fun _ _ _ _ => (pgx 0 (nd_of (by rfl)) (by rfl))) (fun _ _ _ _ => pts_nil) (fun _ _ _ _ => (pi_range2 rfl T.b_range (pa2 (cx 0 (by rfl)) (cx 2 (by rfl)) (by rfl)) (by rfl) (by rfl))) (fun _ _ _ _ => (pgx 1 (nd_of (by rfl)) (by rfl))) (fun _ _ _ _ => pts_nil) (fun _ _ _ _ => (c_tup (pa2 (cx 0 (by rfl)) (cx 1 (by rfl)) (by rfl)))) (by rfl) (fl_of (by rfl)) (by intro _; rfl) (by intro _ _; rfl)) (pss_cons (ps_setComp (i := 7) ["stretch", "terms"] [none, some 0] sc_least_stretch.nd rfl (loc_of (by rfl)) rfl (piL K (cx 6 (by rfl)) (by rfl)) (BlockScope.of rfl) (fun _ _ _ _ => (pgx 0 (nd_of (by rfl)) (by rfl))) (fun _ _ _ _ => (pts_one (c_val (c_call D_is_too_much (hr.mono (by decide)) rfl (pa2 (cx 1 (by rfl)) (cx 0 (by rfl)) (by rfl)) (by decide) (by rfl) (by rfl)) (by intro _; rfl)))) (fun _ _ _ _ => (cx 0 (by rfl))) (by rfl) (fl_of (by rfl)) (by intro _; rfl)) (pss_one (ps_ret (c_ifE (pt_truL (cx 7 (by rfl)) (by intro _; rfl)) (pe_ix (ixL K (by rfl)) (cx 7 (by rfl)) pe_int (fun _ _ => rfl)) pe_non))))))), ?_⟩
 unfold sp_least_stretch at h
 split at h
 ·rename_i v
  obtain ⟨p, T, ok, r, q⟩ := h
  obtain ⟨A, C, B, D, M, xc, rfl, hA, hC, rc, hB, hD, hM⟩ := Rep.terms r
  have l8 := ok.l8
  refine ⟨A, _, rfl, SqT.of hA, rfl, _, _, rfl, _, _, rfl, _, _, rfl, _, _, rfl, rfl, ?_⟩
  refine ⟨D, _, rfl, .inr (SqT.of hD), ?_⟩
  rw [List.length_map]
  refine ⟨_, rfl, by omega, by omega, walk1_range (n := T.ds.length) (fun i zs H' => Same H H' ∧ Reps p H' ((strAll T.ds.length i).map pD) zs) ⟨Same.refl _, .nil⟩ (fun i zs H1 hi h => ?_) fun zs H1 h => ?_⟩
  ·refine ⟨⟨rfl, trivial⟩, fun _ => ?_, fun z => by cases z⟩
   have lz := h.2.len
   rw [List.length_map] at lz
   have ls := strAll_len (n := T.ds.length) (k := i)
   have lm : T.ds.length * i ≤ 8 * 8 := Nat.mul_le_mul l8 (by omega)
   have e0 : ((T.ds.length : Int) - (0 + (i : Int))).toNat = T.ds.length - i := by omega
   refine ⟨_, _, rfl, ⟨by omega, by omega, by omega, by omega⟩, ?_⟩
   rw [e0]
   refine walk2_range (n := T.ds.length - i) (fun j ys H2 => Same H H2 ∧ Reps p H2 ((strAll T.ds.length i ++ strRow i j).map pD) ys ∧ j ≤ 8) ⟨h.1, ?_, Nat.zero_le _⟩ (fun j ys H2 h => ?_) (fun j ys H2 hj h2 => ?_) fun ys H2 h2 => ?_
   ·have e1 : strRow i 0 = [] := rfl
    rw [e1, List.append_nil]; exact h.2
   ·have h3 := h.2.1.len
    rw [List.length_map, List.length_append, strRow_len] at h3
    have := h.2.2
    omega
   ·refine ⟨⟨rfl, rfl, trivial⟩, fun _ t ht => ?_, fun z => by cases z⟩
    have nt := Same.new (o := .tup [.int (0 + (i : Int)), .int (0 + (i : Int) + (j : Int))]) ht
    refine ⟨h2.1.trans nt, ?_, by omega⟩
    rw [strRow_next, ← List.append_assoc, List.map_append]
    exact Reps.snoc (Reps.ev (Ev.same nt) _ _ h2.2.1) (Rep.tup upd_same (.cons (Rep.intE (by simp)) (.cons (Rep.intE (by simp)) .nil)))
   ·refine ⟨h2.1, ?_⟩
    rw [strAll_next]
    exact h2.2.1
  ·intro m hm
   have s1 := h.1.trans (Same.new (o := .lst zs) hm)
   have r1 := Reps.ev (Ev.new (p := p) (o := .lst zs) hm) _ _ h.2
   have lz := h.2.len
   rw [List.length_map] at lz
   have ls := strAll_len (n := T.ds.length) (k := T.ds.length)
   have lm : T.ds.length * T.ds.length ≤ 8 * 8 := Nat.mul_le_mul l8 l8
   refine ⟨m, rfl, ⟨zs, SqL.of upd_same⟩, walk_lst (xs := zs) (fun i ys H' => Same (upd H1 m (.lst zs)) H' ∧ Reps p H' ((((strAll T.ds.length T.ds.length).take i).filter fun q => tooMuch T q.1 q.2).map pD) ys) (by omega) ⟨Same.refl _, .nil⟩ (fun i ys H' h => ?_) (fun i ys H' _ h => SqL.of (h.1 _ _ upd_same)) (fun i x ys H' hx h => ?_) fun ys H2 h2 => ?_⟩
   ·rw [← h.2.len, List.length_map]
    exact Nat.le_trans (List.length_filter_le _ _) (by rw [List.length_take]; omega)
   ·obtain ⟨⟨f, l⟩, hf, rd⟩ := Reps.mapGot r1 hx
    obtain ⟨hfl, hl⟩ := strAll_in (Nat.le_refl _) _ (List.mem_of_getElem? hf)
    refine ⟨⟨rfl, trivial⟩, p, T, f, l, ok, Rep.ev (Ev.same (s1.trans h.1)) _ _ r, Rep.ev (Ev.same h.1) _ _ rd, hfl, hl, fun H3 s3 => ⟨fun c => ?_, fun c => ?_⟩⟩
    ·refine ⟨h.1.trans s3, ?_⟩
     rw [take_next hf, List.filter_append, List.filter_cons_of_pos (by exact c), List.map_append]
     exact Reps.snoc (Reps.ev (Ev.same s3) _ _ h.2) (Rep.ev (Ev.same (h.1.trans s3)) _ _ rd)
    ·refine ⟨h.1.trans s3, ?_⟩
     rw [take_next hf, List.filter_append, List.filter_cons_of_neg (by rw [show tooMuch T (f, l).1 (f, l).2 = false from c]; decide), List.filter_nil, List.append_nil]
     exact Reps.ev (Ev.same s3) _ _ h.2
   ·intro m2 hm2
    rw [List.take_of_length_le (by omega)] at h2
    have s2 := s1.trans (h2.1.trans (Same.new (o := .lst ys) hm2))
    have r2 := Reps.ev (Ev.new (p := p) (o := .lst ys) hm2) _ _ h2.2
    refine ⟨m2, ys, rfl, upd_same, ⟨fun c => ?_, fun c => ?_⟩⟩
    ·cases ys with
     | nil => cases c
     | cons y ys =>
      refine ⟨m2, _, 0, y, rfl, rfl, SqL.of upd_same, atI_nat (j := 0) rfl, q _ _ s2 ?_⟩
      have eq : shownBy T = (strAll T.ds.length T.ds.length).filter fun q => tooMuch T q.1 q.2 := rfl
      unfold leastStr
      rw [← eq] at r2
      cases z : shownBy T with
      | nil => rw [z] at r2; have := r2.len; cases this
      | cons a l =>
       rw [z] at r2
       unfold Reps at r2
       obtain ⟨x, t, e, rx, _⟩ := r2
       cases e
       exact rx
    ·cases ys with
     | cons y ys => cases c
     | nil =>
      refine q _ _ s2 ?_
      have eq : shownBy T = (strAll T.ds.length T.ds.length).filter fun q => tooMuch T q.1 q.2 := rfl
      unfold leastStr
      rw [← eq] at r2
      cases z : shownBy T with
      | nil => exact Rep.non
      | cons a l => rw [z] at r2; have := r2.len; cases this
 ·exact h.elim
theorem sc_coal_under : FnScope ["terms", "floor", "prices"] ["terms"] (defScope s_coal_under) := ⟨rfl, rfl, rfl, by decide +kernel, rfl, by decide +kernel, by decide +kernel⟩
theorem ok_coal_under (F : Df K mg "coal_under" s_coal_under ["terms"]) (T : Tx mg) (D_highest_floor : Fn P w K mg base 3 "highest_floor" ["terms"] sp_highest_floor) (D_least_stretch : Fn P w K mg base 2 "least_stretch" ["terms"] sp_least_stretch) : Fn P w K mg base 4 "coal_under" ["terms"] sp_coal_under := by
 refine F.fn sc_coal_under (fun vs H Q E h => ?_) (fun f cdv A outer s H vs Q E hr h => ?_)
 ·unfold sp_coal_under at h; split at h; rfl; exact h.elim
 refine ⟨_, (pss_cons (c_if (c_cmpT op_notN (c_call D_least_stretch (hr.mono (by decide)) rfl (pa1 (cx 0 (by rfl)) (by rfl)) (by decide) (by rfl) (by rfl)) pe_non (nomark _)) (pss_one (ps_ret pe_non)) pss_nil) (pss_cons (ps_asg (c_call D_highest_floor (hr.mono (by decide)) rfl (pa1 (cx 0 (by rfl)) (by rfl)) (by decide) (by rfl) (by rfl)) (pgT K (n := 2) (pgs_cons (pgx 1 sc_coal_under.nd (by rfl)) (pgs_cons (pgx 2 sc_coal_under.nd (by rfl)) pgs_nil (by rfl)) (by rfl)) (by rfl) (by rfl) (by rfl) (by rfl)) (by rfl) (by rfl) (by rfl)) (pss_one (ps_ret (cx 1 (by rfl)))))), ?_⟩
 unfold sp_coal_under at h
 split at h
 ·rename_i v
  obtain ⟨p, T, fl, r, q1, q2⟩ := h
  refine ⟨p, T, fl.ok, r, fun u H1 s1 ru => ?_⟩
  cases z : leastStr T with
  | none =>
   rw [z] at ru
   have eu : u = .non := by unfold strD at ru; unfold Rep at ru; exact ru
   subst eu
   refine ⟨rfl, ⟨fun c => by simp at c, fun _ => ?_⟩⟩
   refine ⟨p, T, fl, Rep.ev (Ev.same s1) _ _ r, fun y H2 f ps s2 ry hf => ?_⟩
   obtain ⟨a, b, rfl, ha, hb⟩ := Rep.tailShape ry
   exact ⟨a, _, rfl, SqT.of ha, rfl, _, _, rfl, _, _, rfl, rfl, q2 z f ps H2 hf (s1.trans s2)⟩
  | some s0 =>
   rw [z] at ru
   have nu : u ≠ .non := by
    obtain ⟨A, eA, _⟩ := Rep.pair ru
    rw [eA]; intro e; cases e
   refine ⟨rfl, ⟨fun _ => q1 (by rw [z]; simp) H1 s1, fun c => ?_⟩⟩
   simp [nu] at c
 ·exact h.elim
end
end MF

end

section
namespace MF
open PySem PySem.Spec PyProof.Rows L2
def sp_is_row : Sp := fun vs H Q _ => match vs with | [v, u] => ∃ p r cs, Rep p H (rowD r) v ∧ Rep p H (rowD cs) u ∧ r.length = cs.length ∧ r.length ≤ 1000 ∧ (∀ (j : Nat) (x c : Int), r[j]? = some x → cs[j]? = some c → 0 ≤ x ∧ x ≤ c) ∧ ∀ H', Same H H' → Q (.bl true) H' | _ => False
def sp_is_firing : Sp := fun vs H Q _ => match vs with | [v, u, w] => ∃ p P S F, Tri p H P S F v u w ∧ ∀ H', Same H H' → Q (.bl true) H' | _ => False
def sp_is_firing_within : Sp := fun vs H Q _ => match vs with | [c, w] => ∃ p P S F, PL.ok P ∧ SY.ok S P.bs.length ∧ FOk P S F ∧ Rep p H (capsD P S) c ∧ Rep p H (FD F) w ∧ ∀ H', Same H H' → Q (.bl true) H' | _ => False
def sp_need_firing : Sp := fun vs H Q _ => match vs with | [v, u, w] => ∃ p P S F, Tri p H P S F v u w ∧ ∀ H', Same H H' → Q .non H' | _ => False
def sp_run_day : Sp := fun vs H Q _ => match vs with | [v, u, w] => ∃ p P S F, Tri p H P S F v u w ∧ ∀ t R sv H' k s xs, Run P S F k s → Same H H' → H R = none → H' t = some (.tup [.ref R, sv]) → H' R = some (.lst xs) → Reps p H' (rowsD P S F k) xs → Rep p H' (shortD s) sv → Q (.ref t) H' | _ => False
def sp_course : Sp := fun vs H Q _ => match vs with | [v, u, w] => ∃ p P S F, Tri p H P S F v u w ∧ ∀ R H' k s xs, Run P S F k s → Same H H' → H R = none → H' R = some (.lst xs) → Reps p H' (rowsD P S F k) xs → Q (.ref R) H' | _ => False
def sp_falls_at : Sp := fun vs H Q _ => match vs with | [v, u, w] => ∃ p P S F, Tri p H P S F v u w ∧ ∀ sv H' k s, Run P S F k s → Same H H' → Rep p H' (shortD s) sv → Q sv H' | _ => False
def sp_keeps_up : Sp := fun vs H Q _ => match vs with | [v, u, w] => ∃ p P S F, Tri p H P S F v u w ∧ ∀ H' k s, Run P S F k s → Same H H' → Q (.bl s.isNone) H' | _ => False
theorem Rep.firing {p : Addr} {H : Hp} {F : List (List Int)} {v : V} (r : Rep p H (FD F) v) : ∃ A xs, v = .ref A ∧ H A = some (.tup xs) ∧ Reps p H (F.map rowD) xs := Rep.shape r
theorem Rep.ofRow {p : Addr} {H : Hp} {r : List Int} {v : V} (h : Rep p H (rowD r) v) : ∃ A, v = .ref A ∧ H A = some (.tup (r.map V.int)) := by
 obtain ⟨A, xs, rfl, hA, rs⟩ := Rep.shape h
 rw [Reps.ints rs] at hA
 exact ⟨A, rfl, hA⟩
theorem short_none {p : Addr} {H : Hp} {s : Option (Int × Int)} {sv : V} (r : Rep p H (shortD s) sv) : decide (sv = .non) = s.isNone := by
 cases s with
 | none => unfold shortD Rep at r; subst r; rfl
 | some q =>
  unfold shortD at r
  obtain ⟨A, xs, rfl, _⟩ := Rep.shape r
  rfl
section
variable {P : Program} {w : World} {K : PySem.W.Frag} {mg : Str → Option Value} {base : Heap}
theorem sc_is_row : FnScope ["thing", "caps"] ["thing", "caps"] (defScope s_is_row) := ⟨rfl, rfl, rfl, by decide +kernel, rfl, by decide +kernel, by decide +kernel⟩
theorem ok_is_row (F : Df K mg "is_row" s_is_row ["thing", "caps"]) (T : Tx mg) (D_is_tuple_of : Fn P w K mg base 1 "is_tuple_of" ["thing", "fewest", "most"] sp_is_tuple_of) (D_is_whole_from : Fn P w K mg base 2 "is_whole_from" ["thing", "least", "most"] sp_is_whole_from) : Fn P w K mg base 3 "is_row" ["thing", "caps"] sp_is_row := by
 refine F.fn sc_is_row (fun vs H Q E h => ?_) (fun f cdv A outer s H vs Q E hr h => ?_)
 ·unfold sp_is_row at h; split at h; rfl; exact h.elim
 refine ⟨_, (@pss_one _ _ _ (@ps_ret _ _ _ _ (@c_andV _ _ _ _ _ _ _ (@c_call _ _ _ _ _ _ _ _ _ _ D_is_tuple_of (hr.mono (by decide)) rfl (@pa3 _ _ _ _ _ _ _ (@cx _ 0 _ _ (by rfl)) (@pe_callB _ _ _ _ _ _ _ _ _ (@lenS _ K (by rfl)) rfl T.b_len PySem.boot_len (@pa1 _ _ _ (@cx _ 1 _ _ (by rfl)) (by rfl)) (by decide) (by decide) (by rfl) (by rfl)) (@pe_callB _ _ _ _ _ _ _ _ _ (@lenS _ K (by rfl)) rfl T.b_len PySem.boot_len (@pa1 _ _ _ (@cx _ 1 _ _ (by rfl)) (by rfl)) (by decide) (by decide) (by rfl) (by rfl)) (by rfl)) (by decide) (by rfl) (by rfl)) (@pe_one _ _ _ _ _ (@pe_callB _ _ _ _ _ _ _ _ _ (@call_all _ rfl) rfl T.b_all boot_all (@pa1 _ _ _ (@pe_comp _ _ _ _ _ _ _ _ _ _ _ ["part", "cap"] [none, none] rfl (@piZTT _ P w K _ _ _ _ _ _ _ _ rfl T.b_zip (@pa2 _ _ _ _ _ (@cx _ 0 _ _ (by rfl)) (@cx _ 1 _ _ (by rfl)) (by rfl)) (by rfl) (by rfl) (by rfl) (by rfl) (by rfl)) (BlockScope.of rfl) (fun _ _ _ _ => (@pgT _ K _ _ _ (2) _ (@pgs_cons _ _ _ _ _ (@pgx _ _ _ 0 (nd_of (by rfl)) (by rfl)) (@pgs_cons _ _ _ _ _ (@pgx _ _ _ 1 (nd_of (by rfl)) (by rfl)) (@pgs_nil _) (by rfl)) (by rfl)) (by rfl) (by rfl) (by rfl) (by rfl))) (fun _ _ _ _ => (@pts_nil _)) (fun _ _ _ _ => (@c_call _ _ _ _ _ _ _ _ _ _ D_is_whole_from (hr.mono (by decide)) rfl (@pa3 _ _ _ _ _ _ _ (@cx _ 0 _ _ (by rfl)) (@pe_int _ _ _ _) (@cx _ 1 _ _ (by rfl)) (by rfl)) (by decide) (by rfl) (by rfl))) (by intro _; rfl)) (by rfl)) (by decide) (by decide) (by rfl) (by rfl)))))), ?_⟩
 unfold sp_is_row at h
 split at h
 ·rename_i v u
  obtain ⟨p, r, cs, rv, ru, hl, h1000, bd, q⟩ := h
  obtain ⟨A, rfl, hA⟩ := Rep.ofRow rv
  obtain ⟨B, rfl, hB⟩ := Rep.ofRow ru
  refine ⟨B, _, rfl, .inr (SqT.of hB), B, _, rfl, .inr (SqT.of hB), p, _, rv, fun b hb => ⟨fun _ => ?_, fun c => ?_⟩⟩
  ·refine ⟨A, B, rfl, ⟨_, SqT.of hA⟩, ⟨_, SqT.of hB⟩, walk_zip (xs := r.map V.int) (ys := cs.map V.int) (fun i zs H' => Same H H' ∧ zs = List.replicate i (V.bl true)) (by rw [List.length_map]; omega) (by rw [List.length_map, List.length_map]; exact hl) ⟨Same.refl _, rfl⟩
    (fun i zs H' h => by rw [h.2, List.length_replicate]; omega) (fun i zs H' h => ⟨SqT.of (h.1 _ _ hA), SqT.of (h.1 _ _ hB)⟩) (fun i x y zs H' T hx hy h hT => ?_) fun zs H' h => ?_⟩
   ·rw [List.getElem?_map] at hx hy
    cases z1 : r[i]? with
    | none => rw [z1] at hx; cases hx
    | some n =>
     cases z2 : cs[i]? with
     | none => rw [z2] at hy; cases hy
     | some m =>
      rw [z1] at hx
      rw [z2] at hy
      cases hx
      cases hy
      obtain ⟨n0, nm⟩ := bd i n m z1 z2
      refine ⟨T, _, rfl, SqT.of upd_same, rfl, _, _, rfl, _, _, rfl, rfl, trivial, fun _ => ⟨p, .int n, Rep.int, fun b1 e1 => ⟨h.1.trans (Same.new hT), ?_⟩⟩, fun c => by cases c⟩
      rw [isWF_ok n0 nm] at e1
      rw [h.2, e1, List.replicate_succ']
   ·intro m hm
    refine ⟨m, List.replicate (r.map V.int).length true, rfl, by rw [upd_same, h.2, List.map_replicate], ?_⟩
    have ea : (List.replicate (r.map V.int).length true).all id = true := by simp
    rw [ea]
    exact q _ (h.1.trans (Same.new hm))
  ·rw [isTO_ok (by rw [List.length_map, List.length_map]; omega) (by rw [List.length_map, List.length_map]; omega)] at hb
   rw [hb] at c; cases c
 ·exact h.elim
theorem sc_is_firing_within : FnScope ["caps", "thing"] ["caps", "thing"] (defScope s_is_firing_within) := ⟨rfl, rfl, rfl, by decide +kernel, rfl, by decide +kernel, by decide +kernel⟩
theorem ok_is_firing_within (F : Df K mg "is_firing_within" s_is_firing_within ["caps", "thing"]) (T : Tx mg) (D_is_row : Fn P w K mg base 3 "is_row" ["thing", "caps"] sp_is_row) (D_is_tuple_of : Fn P w K mg base 1 "is_tuple_of" ["thing", "fewest", "most"] sp_is_tuple_of) : Fn P w K mg base 4 "is_firing_within" ["caps", "thing"] sp_is_firing_within := by
 refine F.fn sc_is_firing_within (fun vs H Q E h => ?_) (fun f cdv A outer s H vs Q E hr h => ?_)
 ·unfold sp_is_firing_within at h; split at h; rfl; exact h.elim
 refine ⟨_, (@pss_one _ _ _ (@ps_ret _ _ _ _ (@c_andV _ _ _ _ _ _ _ (@c_call _ _ _ _ _ _ _ _ _ _ D_is_tuple_of (hr.mono (by decide)) rfl (@pa3 _ _ _ _ _ _ _ (@cx _ 1 _ _ (by rfl)) (@pe_callB _ _ _ _ _ _ _ _ _ (@lenS _ K (by rfl)) rfl T.b_len PySem.boot_len (@pa1 _ _ _ (@cx _ 0 _ _ (by rfl)) (by rfl)) (by decide) (by decide) (by rfl) (by rfl)) (@pe_callB _ _ _ _ _ _ _ _ _ (@lenS _ K (by rfl)) rfl T.b_len PySem.boot_len (@pa1 _ _ _ (@cx _ 0 _ _ (by rfl)) (by rfl)) (by decide) (by decide) (by rfl) (by rfl)) (by rfl)) (by decide) (by rfl) (by rfl)) (@pe_one _ _ _ _ _ (@pe_callB _ _ _ _ _ _ _ _ _ (@call_all _ rfl) rfl T.b_all boot_all (@pa1 _ _ _ (@pe_comp _ _ _ _ _ _ _ _ _ _ _ ["part", "row"] [none, none] rfl (@piZTT _ P w K _ _ _ _ _ _ _ _ rfl T.b_zip (@pa2 _ _ _ _ _ (@cx _ 1 _ _ (by rfl)) (@cx _ 0 _ _ (by rfl)) (by rfl)) (by rfl) (by rfl) (by rfl) (by rfl) (by rfl)) (BlockScope.of rfl) (fun _ _ _ _ => (@pgT _ K _ _ _ (2) _ (@pgs_cons _ _ _ _ _ (@pgx _ _ _ 0 (nd_of (by rfl)) (by rfl)) (@pgs_cons _ _ _ _ _ (@pgx _ _ _ 1 (nd_of (by rfl)) (by rfl)) (@pgs_nil _) (by rfl)) (by rfl)) (by rfl) (by rfl) (by rfl) (by rfl))) (fun _ _ _ _ => (@pts_nil _)) (fun _ _ _ _ => (@c_call _ _ _ _ _ _ _ _ _ _ D_is_row (hr.mono (by decide)) rfl (@pa2 _ _ _ _ _ (@cx _ 0 _ _ (by rfl)) (@cx _ 1 _ _ (by rfl)) (by rfl)) (by decide) (by rfl) (by rfl))) (by intro _; rfl)) (by rfl)) (by decide) (by decide) (by rfl) (by rfl)))))), ?_⟩
 unfold sp_is_firing_within at h
 split at h
 ·rename_i c w
  obtain ⟨p, P, S, F, ok, so, fo, r1, rw', q⟩ := h
  have x8 := so.x8
  have b4 := ok.b4
  have fl := fo.len
  obtain ⟨A, xs, rfl, hA, rx⟩ := Rep.firing rw'
  unfold capsD at r1
  obtain ⟨B, ys, rfl, hB, ry⟩ := Rep.shape r1
  have lx := rx.len
  rw [List.length_map] at lx
  have ly := ry.len
  rw [List.length_map, caps_len] at ly
  refine ⟨B, _, rfl, .inr (SqT.of hB), B, _, rfl, .inr (SqT.of hB), p, _, rw', fun b hb => ⟨fun _ => ?_, fun c => ?_⟩⟩
  ·refine ⟨A, B, rfl, ⟨_, SqT.of hA⟩, ⟨_, SqT.of hB⟩, walk_zip (xs := xs) (ys := ys) (fun i zs H' => Same H H' ∧ zs = List.replicate i (V.bl true)) (by omega) (by omega) ⟨Same.refl _, rfl⟩
    (fun i zs H' h => by rw [h.2, List.length_replicate]; omega) (fun i zs H' h => ⟨SqT.of (h.1 _ _ hA), SqT.of (h.1 _ _ hB)⟩) (fun i x y zs H' T hx hy h hT => ?_) fun zs H' h => ?_⟩
   ·obtain ⟨r, hr, rr⟩ := Reps.mapGot rx hx
    obtain ⟨cs, hc, rc⟩ := Reps.mapGot ry hy
    have hi : i < S.ex.length := by
     have := (List.getElem?_eq_some_iff.mp hx).1
     omega
    rw [caps_get hi] at hc
    cases hc
    have s2 := h.1.trans (Same.new (o := .tup [x, y]) hT)
    refine ⟨T, _, rfl, SqT.of upd_same, rfl, _, _, rfl, _, _, rfl, rfl, trivial, fun _ => ⟨p, r, _, Rep.ev (Ev.same s2) _ _ rr, Rep.ev (Ev.same s2) _ _ rc, by rw [capsIn_len]; exact fo.row i r hr, by rw [fo.row i r hr]; omega, fun j x c hx hc => fo.bd i r j x c hr hx hc, fun H3 s3 => ⟨s2.trans s3, ?_⟩⟩, fun c => by cases c⟩
    rw [h.2, List.replicate_succ']
   ·intro m hm
    refine ⟨m, List.replicate xs.length true, rfl, by rw [upd_same, h.2, List.map_replicate], ?_⟩
    have ea : (List.replicate xs.length true).all id = true := by simp
    rw [ea]
    exact q _ (h.1.trans (Same.new hm))
  ·unfold FD at hb
   rw [isTO_ok (by rw [List.length_map]; omega) (by rw [List.length_map]; omega)] at hb
   rw [hb] at c; cases c
 ·exact h.elim
theorem sc_is_firing : FnScope ["plant", "story", "thing"] ["plant", "story", "thing"] (defScope s_is_firing) := ⟨rfl, rfl, rfl, by decide +kernel, rfl, by decide +kernel, by decide +kernel⟩
theorem ok_is_firing (F : Df K mg "is_firing" s_is_firing ["plant", "story", "thing"]) (T : Tx mg) (D_caps_of : Fn P w K mg base 9 "caps_of" ["plant", "story"] sp_caps_of) (D_is_firing_within : Fn P w K mg base 4 "is_firing_within" ["caps", "thing"] sp_is_firing_within) : Fn P w K mg base 10 "is_firing" ["plant", "story", "thing"] sp_is_firing := by
 refine F.fn sc_is_firing (fun vs H Q E h => ?_) (fun f cdv A outer s H vs Q E hr h => ?_)
 ·unfold sp_is_firing at h; split at h; rfl; exact h.elim
 refine ⟨_, (@pss_one _ _ _ (@ps_ret _ _ _ _ (@c_call _ _ _ _ _ _ _ _ _ _ D_is_firing_within (hr.mono (by decide)) rfl (@pa2 _ _ _ _ _ (@c_call _ _ _ _ _ _ _ _ _ _ D_caps_of (hr.mono (by decide)) rfl (@pa2 _ _ _ _ _ (@cx _ 0 _ _ (by rfl)) (@cx _ 1 _ _ (by rfl)) (by rfl)) (by decide) (by rfl) (by rfl)) (@cx _ 2 _ _ (by rfl)) (by rfl)) (by decide) (by rfl) (by rfl)))), ?_⟩
 unfold sp_is_firing at h
 split at h
 ·rename_i v u w
  obtain ⟨p, P, S, F, tr, q⟩ := h
  exact ⟨p, P, S, tr.ok, tr.so, tr.r, tr.ru, fun v1 H1 s1 r1 => ⟨p, P, S, F, tr.ok, tr.so, tr.fo, r1, (tr.sm s1).rw, fun H2 s2 => q H2 (s1.trans s2)⟩⟩
 ·exact h.elim
theorem sc_need_firing : FnScope ["plant", "story", "firing"] ["plant", "story", "firing"] (defScope s_need_firing) := ⟨rfl, rfl, rfl, by decide +kernel, rfl, by decide +kernel, by decide +kernel⟩
theorem ok_need_firing (F : Df K mg "need_firing" s_need_firing ["plant", "story", "firing"]) (T : Tx mg) (D_is_firing : Fn P w K mg base 10 "is_firing" ["plant", "story", "thing"] sp_is_firing) : Fn P w K mg base 11 "need_firing" ["plant", "story", "firing"] sp_need_firing := by
 refine F.fn sc_need_firing (fun vs H Q E h => ?_) (fun f cdv A outer s H vs Q E hr h => ?_)
 ·unfold sp_need_firing at h; split at h; rfl; exact h.elim
 refine ⟨_, (@pss_one _ _ _ (@c_if _ _ _ _ _ _ _ _ (@pt_not _ _ _ _ (@c_val _ _ _ (@c_call _ _ _ _ _ _ _ _ _ _ D_is_firing (hr.mono (by decide)) rfl (@pa3 _ _ _ _ _ _ _ (@cx _ 0 _ _ (by rfl)) (@cx _ 1 _ _ (by rfl)) (@cx _ 2 _ _ (by rfl)) (by rfl)) (by decide) (by rfl) (by rfl)) (by intro _; rfl))) (@pss_one _ _ _ (@ps_never _ _)) (@pss_nil _))), ?_⟩
 unfold sp_need_firing at h
 split at h
 ·rename_i v u w
  obtain ⟨p, P, S, F, tr, q⟩ := h
  exact ⟨p, P, S, F, tr, fun H' s => ⟨fun c => (by cases c), fun c => q H' s⟩⟩
 ·exact h.elim
theorem sc_run_day : FnScope ["plant", "story", "firing", "low", "high", "main", "rows", "hour", "drawn", "made", "blown"] ["plant", "story", "firing"] (defScope s_run_day) := ⟨rfl, rfl, rfl, by decide +kernel, rfl, by decide +kernel, by decide +kernel⟩
theorem ok_run_day (F : Df K mg "run_day" s_run_day ["plant", "story", "firing"]) (T : Tx mg) (D_draws_of : Fn P w K mg base 9 "draws_of" ["plant", "story"] sp_draws_of) (D_need_firing : Fn P w K mg base 11 "need_firing" ["plant", "story", "firing"] sp_need_firing) : Fn P w K mg base 12 "run_day" ["plant", "story", "firing"] sp_run_day := by
 refine F.fn sc_run_day (fun vs H Q E h => ?_) (fun f cdv A outer s H vs Q E hr h => ?_)
 ·unfold sp_run_day at h; split at h; rfl; exact h.elim
 refine ⟨_, (@pss_cons _ _ _ _ _ (@ps_expr _ _ _ _ (@c_call _ _ _ _ _ _ _ _ _ _ D_need_firing (hr.mono (by decide)) rfl (@pa3 _ _ _ _ _ _ _ (@cx _ 0 _ _ (by rfl)) (@cx _ 1 _ _ (by rfl)) (@cx _ 2 _ _ (by rfl)) (by rfl)) (by decide) (by rfl) (by rfl)) (by rfl)) (@pss_cons _ _ _ _ _ (@ps_asg _ _ _ _ _ _ (@pe_ix _ _ _ _ _ _ _ (@ixT _ K (by rfl)) (@cx _ 0 _ _ (by rfl)) (@pe_int _ _ _ _) (fun _ _ => rfl)) (@pgT _ K _ _ _ (3) _ (@pgs_cons _ _ _ _ _ (@pgx _ _ _ 3 sc_run_day.nd (by rfl)) (@pgs_cons _ _ _ _ _ (@pgx _ _ _ 4 sc_run_day.nd (by rfl)) (@pgs_cons _ _ _ _ _ (@pgx _ _ _ 5 sc_run_day.nd (by rfl)) (@pgs_nil _) (by rfl)) (by rfl)) (by rfl)) (by rfl) (by rfl) (by rfl) (by rfl)) (by rfl) (by rfl) (by rfl)) (@pss_cons _ _ _ _ _ (@ps_set _ _ (6) _ _ _ _ sc_run_day.nd rfl (loc_of (by rfl)) (@c_lst _ _ _ _ (@pa_nil _)) (by rfl) (fl_of (by rfl))) (@pss_cons _ _ _ _ _ (@ps_for _ _ _ _ _ _ _ _ PassesOwn.never rfl (@piET _ P w K _ _ _ _ _ _ _ rfl T.b_enumerate (@pa1 _ _ _ (@c_call _ _ _ _ _ _ _ _ _ _ D_draws_of (hr.mono (by decide)) rfl (@pa2 _ _ _ _ _ (@cx _ 0 _ _ (by rfl)) (@cx _ 1 _ _ (by rfl)) (by rfl)) (by decide) (by rfl) (by rfl)) (by rfl)) (by rfl) (by rfl) (by rfl) (by rfl)) (@pgT _ K _ _ _ (2) _ (@pgs_cons _ _ _ _ _ (@pgx _ _ _ 7 sc_run_day.nd (by rfl)) (@pgs_cons _ _ _ _ _ (@pgx _ _ _ 8 sc_run_day.nd (by rfl)) (@pgs_nil _) (by rfl)) (by rfl)) (by rfl) (by rfl) (by rfl) (by rfl)) (@pss_cons _ _ _ _ _ (@ps_set _ _ (9) _ _ _ _ sc_run_day.nd rfl (loc_of (by rfl)) (@pe_callB _ _ _ _ _ _ _ _ _ (@call_sumS _ rfl) rfl T.b_sum boot_sum (@pa1 _ _ _ (@pe_ix _ _ _ _ _ _ _ (@ixT _ K (by rfl)) (@cx _ 2 _ _ (by rfl)) (@cx _ 7 _ _ (by rfl)) (fun _ _ => rfl)) (by rfl)) (by decide) (by decide) (by rfl) (by rfl)) (by rfl) (fl_of (by rfl))) (@pss_cons _ _ _ _ _ (@ps_aug _ _ (5) _ _ _ _ _ _ sc_run_day.nd rfl (loc_of (by rfl)) (@pe_op _ _ _ _ _ _ _ _ (@o_sub _) (@cx _ 9 _ _ (by rfl)) (@cx _ 8 _ _ (by rfl))) ip_add (fl_of (by rfl))) (@pss_cons _ _ _ _ _ (@c_if _ _ _ _ _ _ _ _ (@c_cmpT _ _ _ _ _ _ _ _ (@o_lt _) (@cx _ 5 _ _ (by rfl)) (@cx _ 3 _ _ (by rfl)) (nomark _)) (@pss_one _ _ _ (@ps_ret _ _ _ _ (@c_tup _ _ _ _ _ (@pa2 _ _ _ _ _ (@cx _ 6 _ _ (by rfl)) (@c_tup _ _ _ _ _ (@pa2 _ _ _ _ _ (@cx _ 7 _ _ (by rfl)) (@pe_op _ _ _ _ _ _ _ _ (@o_sub _) (@cx _ 3 _ _ (by rfl)) (@cx _ 5 _ _ (by rfl))) (by rfl))) (by rfl))))) (@pss_nil _)) (@pss_cons _ _ _ _ _ (@ps_set _ _ (10) _ _ _ _ sc_run_day.nd rfl (loc_of (by rfl)) (@pe_callB _ _ _ _ _ _ _ _ _ (@call_max2 _ rfl) rfl T.b_max boot_max (@pa2 _ _ _ _ _ (@pe_op _ _ _ _ _ _ _ _ (@o_sub _) (@cx _ 5 _ _ (by rfl)) (@cx _ 4 _ _ (by rfl))) (@pe_int _ _ _ _) (by rfl)) (by decide) (by decide) (by rfl) (by rfl)) (by rfl) (fl_of (by rfl))) (@pss_cons _ _ _ _ _ (@ps_aug _ _ (5) _ _ _ _ _ _ sc_run_day.nd rfl (loc_of (by rfl)) (@cx _ 10 _ _ (by rfl)) ip_sub (fl_of (by rfl))) (@pss_one _ _ _ (@ps_expr _ _ _ _ (@pe_bm _ _ _ _ _ _ _ _ _ _ _ _ PySem.F.plainAttrs_list PySem.F.slot_list_append PySem.F.type_list_append mt_append (@cx _ 6 _ _ (by rfl)) (@pa1 _ _ _ (@c_tup _ _ _ _ _ (@pa4 _ _ _ _ _ _ _ _ _ (@cx _ 9 _ _ (by rfl)) (@cx _ 8 _ _ (by rfl)) (@cx _ 10 _ _ (by rfl)) (@cx _ 5 _ _ (by rfl)) (by rfl))) (by rfl)) (by rfl) (by rfl) (by rfl) (by rfl) (by rfl)) (by rfl)))))))) (by intro _; rfl)) (@pss_one _ _ _ (@ps_ret _ _ _ _ (@c_tup _ _ _ _ _ (@pa2 _ _ _ _ _ (@cx _ 6 _ _ (by rfl)) (@pe_non _ _ _) (by rfl))))))))), ?_⟩
 unfold sp_run_day at h
 split at h
 ·rename_i v u w
  obtain ⟨p, P, S, F, tr, q⟩ := h
  refine ⟨p, P, S, F, tr, fun H1 s1 => ?_⟩
  have t1 := tr.sm s1
  have x8 := tr.so.x8
  have fl := tr.fo.len
  obtain ⟨PA, PB, PE, PM, xb, xe, rfl, pA, pB, rb, pE, re, pM⟩ := Rep.plant t1.r
  refine ⟨PA, _, 2, .ref PM, rfl, rfl, SqT.of pA, rfl, PM, _, rfl, SqT.of pM, rfl, _, _, rfl, _, _, rfl, _, _, rfl, rfl, fun R hR => ?_⟩
  have sR : Same H1 (upd H1 R (.lst [])) := Same.new hR
  have hHR : H R = none := s1.free hR
  have tR := t1.sm sR
  refine ⟨p, P, S, tr.ok, tr.so, tR.r, tR.ru, fun v1 H2 s2 r2 => ?_⟩
  obtain ⟨D, rfl, hD⟩ := Rep.ofRow (r := draws P S) r2
  have t2 := tR.sm s2
  have sH2 : Same H H2 := s1.trans (sR.trans s2)
  obtain ⟨FA, fx, rfl, hF, rx⟩ := Rep.firing t2.rw
  refine ⟨D, rfl, ⟨_, SqT.of hD⟩, for_enum (xs := (draws P S).map V.int) (fun i σ H' => (∃ x7 x8 x9 x10, σ = [some (.ref PA), some u, some (.ref FA), some (.int P.lo), some (.int P.hi), some (.int (mainAt P S F i)), some (.ref R), x7, x8, x9, x10]) ∧ Ev R H2 H' ∧ (∀ j, j < i → P.lo ≤ pmAt P S F j) ∧ ∃ xs, H' R = some (.lst xs) ∧ Reps p H' (rowsD P S F i) xs)
   ⟨⟨_, _, _, _, rfl⟩, Ev.refl, (fun j hj => absurd hj (Nat.not_lt_zero _)), [], s2 _ _ upd_same, .nil⟩ (fun i σ H' h => SqT.of (h.2.1.tup hD)) (fun i x σ H' T hx h hT => ?_) fun σ H' h => ?_⟩
  ·obtain ⟨⟨x7, x8', x9, x10, rfl⟩, ev, up, xs, hRx, rxs⟩ := h
   rw [List.getElem?_map] at hx
   cases z : (draws P S)[i]? with
   | none => rw [z] at hx; cases hx
   | some d =>
    rw [z] at hx
    cases hx
    have hi : i < S.ex.length := by
     have := (List.getElem?_eq_some_iff.mp z).1
     rw [draws_len] at this; exact this
    have ed := drawnAt_of z
    obtain ⟨r, hr⟩ : ∃ r, F[i]? = some r := ⟨F[i], by simp⟩
    have em := made_of hr
    obtain ⟨y, hy, ry⟩ := rx.get (i := i) (d := rowD r) (by rw [List.getElem?_map, hr]; rfl)
    have nw : Same H' (upd H' T (.tup [.int i, .int d])) := Same.new hT
    have ev2 : Ev R H2 (upd H' T (.tup [.int i, .int d])) := ev.trans (Ev.same nw)
    obtain ⟨ra, rfl, hra⟩ := Rep.ofRow ry
    refine ⟨T, _, rfl, SqT.of upd_same, rfl, _, _, rfl, _, _, rfl, rfl, ?_⟩
    refine ⟨FA, _, (i : Int), .ref ra, rfl, rfl, SqT.of (ev2.tup hF), atI_nat hy, ra, r, rfl, .inr (ev2.tup hra), _, rfl, _, _, rfl, rfl, ?_⟩
    have epm : mainAt P S F i + (r.sum - d) = pmAt P S F i := by unfold pmAt; rw [em, ed]
    refine ⟨fun c => ?_, fun c => ?_⟩
    ·intro t1 ht1 t2 ht2
     have c' := of_decide_eq_true c
     have n12 := (Same.new (o := .tup [.int i, .int (P.lo - (mainAt P S F i + (r.sum - d)))]) ht1).trans (Same.new (o := .tup [.ref R, .ref t1]) ht2)
     refine q t2 R (.ref t1) _ i (some ((i : Int), P.lo - pmAt P S F i)) xs ⟨Nat.le_of_lt hi, up, .inr ⟨hi, by rw [← epm]; exact c', rfl⟩⟩ (Same.evOwn sH2 hHR (ev2.trans (Ev.same n12))) hHR upd_same ((nw.trans n12) _ _ hRx) (Reps.ev (Ev.same (nw.trans n12)) _ _ rxs) ?_
     refine Rep.tup ((Same.new ht2) _ _ upd_same) ?_
     rw [← epm]
     exact .cons Rep.int (.cons Rep.int .nil)
    ·refine ⟨_, _, rfl, _, rfl, _, _, rfl, rfl, .inl ⟨rfl, _, SqL.of (nw _ _ hRx)⟩, fun t ht => ?_⟩
     have c' : P.lo ≤ pmAt P S F i := by
      have := of_decide_eq_false c
      have h2 : ¬ mainAt P S F i + (r.sum - d) < P.lo := this
      rw [epm] at h2; omega
     have lx := rxs.len
     rw [rowsD_len] at lx
     have hR3 : upd (upd H' T (.tup [.int i, .int d])) t (.tup [.int r.sum, .int d, .int (if 0 > mainAt P S F i + (r.sum - d) - P.hi then 0 else mainAt P S F i + (r.sum - d) - P.hi), .int (mainAt P S F i + (r.sum - d) - if 0 > mainAt P S F i + (r.sum - d) - P.hi then 0 else mainAt P S F i + (r.sum - d) - P.hi)]) R = some (.lst xs) := (nw.trans (Same.new ht)) _ _ hRx
     have em2 : mainAt P S F i + (r.sum - d) - (if 0 > mainAt P S F i + (r.sum - d) - P.hi then 0 else mainAt P S F i + (r.sum - d) - P.hi) = mainAt P S F (i + 1) := by rw [mainAt_next, ← epm]; rfl
     refine ⟨R, xs, .ref t, rfl, rfl, hR3, small63 (by omega), ⟨some (.int i), some (.int d), some (.int r.sum), some (.int (if 0 > mainAt P S F i + (r.sum - d) - P.hi then 0 else mainAt P S F i + (r.sum - d) - P.hi)), congrArg (fun z => [some (V.ref PA), some u, some (V.ref FA), some (V.int P.lo), some (V.int P.hi), some (V.int z), some (V.ref R), some (V.int i), some (V.int d), some (V.int r.sum), some (V.int (if 0 > mainAt P S F i + (r.sum - d) - P.hi then 0 else mainAt P S F i + (r.sum - d) - P.hi))]) em2⟩, (ev2.trans (Ev.new ht)).trans (Ev.pen hR3), fun j hj => ?_, _, upd_same, ?_⟩
     ·by_cases cj : j = i
      ·subst cj; exact c'
      ·exact up j (by omega)
     ·have tv := TEv.upd (zs := xs ++ [.ref t]) hR3
      rw [rowsD_next]
      refine Reps.snoc (Reps.tev ((Ev.same (p := p) (nw.trans (Same.new ht))).tev.trans tv) _ _ (noMuts_all fun d hd => ?_) rxs) (Rep.tev (p := p) tv _ _ rfl (Rep.tup upd_same ?_))
      ·unfold rowsD at hd
       obtain ⟨k, _, rfl⟩ := List.mem_map.mp hd
       rfl
      ·rw [em, ed, mainAt_next, ← epm]
       exact .cons Rep.int (.cons Rep.int (.cons Rep.int (.cons Rep.int .nil)))
  ·obtain ⟨⟨x7, x8', x9, x10, rfl⟩, ev, up, xs, hRx, rxs⟩ := h
   rw [List.length_map, draws_len] at up rxs
   intro t ht
   have nw := Same.new (o := .tup [.ref R, .non]) ht
   exact q t R .non _ S.ex.length none xs ⟨Nat.le_refl _, up, .inl ⟨rfl, rfl⟩⟩ (Same.evOwn sH2 hHR (ev.trans (Ev.same nw))) hHR upd_same (nw _ _ hRx) (Reps.ev (Ev.same nw) _ _ rxs) Rep.non
 ·exact h.elim
theorem sc_course : FnScope ["plant", "story", "firing", "rows", "short"] ["plant", "story", "firing"] (defScope s_course) := ⟨rfl, rfl, rfl, by decide +kernel, rfl, by decide +kernel, by decide +kernel⟩
theorem ok_course (F : Df K mg "course" s_course ["plant", "story", "firing"]) (T : Tx mg) (D_run_day : Fn P w K mg base 12 "run_day" ["plant", "story", "firing"] sp_run_day) : Fn P w K mg base 13 "course" ["plant", "story", "firing"] sp_course := by
 refine F.fn sc_course (fun vs H Q E h => ?_) (fun f cdv A outer s H vs Q E hr h => ?_)
 ·unfold sp_course at h; split at h; rfl; exact h.elim
 refine ⟨_, (@pss_cons _ _ _ _ _ (@ps_asg _ _ _ _ _ _ (@c_call _ _ _ _ _ _ _ _ _ _ D_run_day (hr.mono (by decide)) rfl (@pa3 _ _ _ _ _ _ _ (@cx _ 0 _ _ (by rfl)) (@cx _ 1 _ _ (by rfl)) (@cx _ 2 _ _ (by rfl)) (by rfl)) (by decide) (by rfl) (by rfl)) (@pgT _ K _ _ _ (2) _ (@pgs_cons _ _ _ _ _ (@pgx _ _ _ 3 sc_course.nd (by rfl)) (@pgs_cons _ _ _ _ _ (@pgx _ _ _ 4 sc_course.nd (by rfl)) (@pgs_nil _) (by rfl)) (by rfl)) (by rfl) (by rfl) (by rfl) (by rfl)) (by rfl) (by rfl) (by rfl)) (@pss_one _ _ _ (@ps_ret _ _ _ _ (@cx _ 3 _ _ (by rfl))))), ?_⟩
 unfold sp_course at h
 split at h
 ·rename_i v u w
  obtain ⟨p, P, S, F, tr, q⟩ := h
  exact ⟨p, P, S, F, tr, fun t R sv H' k s xs run sm hR ht hRx rx rs => ⟨t, _, rfl, SqT.of ht, rfl, _, _, rfl, _, _, rfl, rfl, q R H' k s xs run sm hR hRx rx⟩⟩
 ·exact h.elim
theorem sc_falls_at : FnScope ["plant", "story", "firing", "rows", "short"] ["plant", "story", "firing"] (defScope s_falls_at) := ⟨rfl, rfl, rfl, by decide +kernel, rfl, by decide +kernel, by decide +kernel⟩
theorem ok_falls_at (F : Df K mg "falls_at" s_falls_at ["plant", "story", "firing"]) (T : Tx mg) (D_run_day : Fn P w K mg base 12 "run_day" ["plant", "story", "firing"] sp_run_day) : Fn P w K mg base 13 "falls_at" ["plant", "story", "firing"] sp_falls_at := by
 refine F.fn sc_falls_at (fun vs H Q E h => ?_) (fun f cdv A outer s H vs Q E hr h => ?_)
 ·unfold sp_falls_at at h; split at h; rfl; exact h.elim
 refine ⟨_, (@pss_cons _ _ _ _ _ (@ps_asg _ _ _ _ _ _ (@c_call _ _ _ _ _ _ _ _ _ _ D_run_day (hr.mono (by decide)) rfl (@pa3 _ _ _ _ _ _ _ (@cx _ 0 _ _ (by rfl)) (@cx _ 1 _ _ (by rfl)) (@cx _ 2 _ _ (by rfl)) (by rfl)) (by decide) (by rfl) (by rfl)) (@pgT _ K _ _ _ (2) _ (@pgs_cons _ _ _ _ _ (@pgx _ _ _ 3 sc_falls_at.nd (by rfl)) (@pgs_cons _ _ _ _ _ (@pgx _ _ _ 4 sc_falls_at.nd (by rfl)) (@pgs_nil _) (by rfl)) (by rfl)) (by rfl) (by rfl) (by rfl) (by rfl)) (by rfl) (by rfl) (by rfl)) (@pss_one _ _ _ (@ps_ret _ _ _ _ (@cx _ 4 _ _ (by rfl))))), ?_⟩
 unfold sp_falls_at at h
 split at h
 ·rename_i v u w
  obtain ⟨p, P, S, F, tr, q⟩ := h
  exact ⟨p, P, S, F, tr, fun t R sv H' k s xs run sm hR ht hRx rx rs => ⟨t, _, rfl, SqT.of ht, rfl, _, _, rfl, _, _, rfl, rfl, q sv H' k s run sm rs⟩⟩
 ·exact h.elim
theorem sc_keeps_up : FnScope ["plant", "story", "firing"] ["plant", "story", "firing"] (defScope s_keeps_up) := ⟨rfl, rfl, rfl, by decide +kernel, rfl, by decide +kernel, by decide +kernel⟩
theorem ok_keeps_up (F : Df K mg "keeps_up" s_keeps_up ["plant", "story", "firing"]) (T : Tx mg) (D_falls_at : Fn P w K mg base 13 "falls_at" ["plant", "story", "firing"] sp_falls_at) : Fn P w K mg base 14 "keeps_up" ["plant", "story", "firing"] sp_keeps_up := by
 refine F.fn sc_keeps_up (fun vs H Q E h => ?_) (fun f cdv A outer s H vs Q E hr h => ?_)
 ·unfold sp_keeps_up at h; split at h; rfl; exact h.elim
 refine ⟨_, (@pss_one _ _ _ (@ps_ret _ _ _ _ (@pe_cmpR _ _ _ _ _ _ _ _ (@op_isN _) (@c_call _ _ _ _ _ _ _ _ _ _ D_falls_at (hr.mono (by decide)) rfl (@pa3 _ _ _ _ _ _ _ (@cx _ 0 _ _ (by rfl)) (@cx _ 1 _ _ (by rfl)) (@cx _ 2 _ _ (by rfl)) (by rfl)) (by decide) (by rfl) (by rfl)) (@pe_non _ _ _) (nomark _)))), ?_⟩
 unfold sp_keeps_up at h
 split at h
 ·rename_i v u w
  obtain ⟨p, P, S, F, tr, q⟩ := h
  refine ⟨p, P, S, F, tr, fun sv H' k s run sm rs => ⟨rfl, ?_⟩⟩
  rw [short_none rs]
  exact q H' k s run sm
 ·exact h.elim
end
end MF

end

section
namespace MF
open PySem PySem.Spec PyProof.Rows L2
def RowIn (r c : List Int) : Prop := r.length = c.length ∧ ∀ (j : Nat) (x y : Int), r[j]? = some x → c[j]? = some y → 0 ≤ x ∧ x ≤ y
def sp__law_firing : Sp := fun vs H Q _ => match vs with | [.ref p, v] => Pen p H ∧ ∃ P S, PL.ok P ∧ SY.ok S P.bs.length ∧ Rep p H (capsD P S) v ∧ ∀ w H' F, FOk P S F → Rep p H' (FD F) w → Ev p H H' → Pen p H' → Q w H' | _ => False
theorem snoc_get {α : Type} {l : List α} {a x : α} {k : Nat} (h : (l ++ [a])[k]? = some x) : l[k]? = some x ∨ (k = l.length ∧ x = a) := by
 by_cases c : k < l.length
 ·rw [List.getElem?_append_left c] at h; exact .inl h
 ·rw [List.getElem?_append_right (by omega)] at h
  have : k - l.length = 0 := by
   have := (List.getElem?_eq_some_iff.mp h).1
   simp at this; omega
  rw [this] at h
  cases h
  exact .inr ⟨by omega, rfl⟩
section
variable {P : Program} {w : World} {K : PySem.W.Frag} {mg : Str → Option Value} {base : Heap}
theorem sc__law_firing : FnScope ["_law_pen_here", "_law_caps_here", "_law_way", "_law_rows", "_law_row"] ["_law_pen_here", "_law_caps_here"] (defScope s__law_firing) := ⟨rfl, rfl, rfl, by decide +kernel, rfl, by decide +kernel, by decide +kernel⟩
theorem ok__law_firing (F : Df K mg "_law_firing" s__law_firing ["_law_pen_here", "_law_caps_here"]) (T : Tx mg) (D__law_draw : Fn P w K mg base 1 "_law_draw" ["_law_pen_here", "_law_many"] sp__law_draw) : Fn P w K mg base 2 "_law_firing" ["_law_pen_here", "_law_caps_here"] sp__law_firing := by
 refine F.fn sc__law_firing (fun vs H Q E h => ?_) (fun f cdv A outer s H vs Q E hr h => ?_)
 ·unfold sp__law_firing at h; split at h; rfl; exact h.elim
 refine ⟨_, (@pss_cons _ _ _ _ _ (@ps_asg _ _ _ _ _ _ (@c_tup _ _ _ _ _ (@pa2 _ _ _ _ _ (@c_call _ _ _ _ _ _ _ _ _ _ D__law_draw (hr.mono (by decide)) rfl (@pa2 _ _ _ _ _ (@cx _ 0 _ _ (by rfl)) (@pe_int _ _ _ _) (by rfl)) (by decide) (by rfl) (by rfl)) (@c_lst _ _ _ _ (@pa_nil _)) (by rfl))) (@pgT _ K _ _ _ (2) _ (@pgs_cons _ _ _ _ _ (@pgx _ _ _ 2 sc__law_firing.nd (by rfl)) (@pgs_cons _ _ _ _ _ (@pgx _ _ _ 3 sc__law_firing.nd (by rfl)) (@pgs_nil _) (by rfl)) (by rfl)) (by rfl) (by rfl) (by rfl) (by rfl)) (by rfl) (by rfl) (by rfl)) (@pss_cons _ _ _ _ _ (@ps_for _ _ _ _ _ _ _ _ PassesOwn.never rfl (@piT _ K _ _ _ (@cx _ 1 _ _ (by rfl)) (by rfl)) (@pgx _ _ _ 4 sc__law_firing.nd (by rfl)) (@pss_one _ _ _ (@ps_expr _ _ _ _ (@pe_bm _ _ _ _ _ _ _ _ _ _ _ _ PySem.F.plainAttrs_list PySem.F.slot_list_append PySem.F.type_list_append mt_append (@cx _ 3 _ _ (by rfl)) (@pa1 _ _ _ (@pe_callTy _ _ _ _ _ _ _ _ _ (@tupOf _ K (by rfl)) rfl T.b_tuple boot_tuple' (@pa1 _ _ _ (@pe_comp _ _ _ _ _ _ _ _ _ _ _ ["_law_cap", "_law_way", "_law_pen_here"] [none, some 2, some 0] rfl (@piT _ K _ _ _ (@cx _ 4 _ _ (by rfl)) (by rfl)) (BlockScope.of rfl) (fun _ _ _ _ => (@pgx _ _ _ 0 (nd_of (by rfl)) (by rfl))) (fun _ _ _ _ => (@pts_nil _)) (fun _ _ _ _ => (@pe_ix _ _ _ _ _ _ _ (@ixL _ K (by rfl)) (@c_lst _ _ _ _ (@pa4 _ _ _ _ _ _ _ _ _ (@cx _ 0 _ _ (by rfl)) (@pe_int _ _ _ _) (@c_call _ _ _ _ _ _ _ _ _ _ D__law_draw (hr.mono (by decide)) rfl (@pa2 _ _ _ _ _ (@cx _ 2 _ _ (by rfl)) (@pe_op _ _ _ _ _ _ _ _ (@o_add _) (@cx _ 0 _ _ (by rfl)) (@pe_int _ _ _ _)) (by rfl)) (by decide) (by rfl) (by rfl)) (@c_call _ _ _ _ _ _ _ _ _ _ D__law_draw (hr.mono (by decide)) rfl (@pa2 _ _ _ _ _ (@cx _ 2 _ _ (by rfl)) (@pe_op _ _ _ _ _ _ _ _ (@o_add _) (@cx _ 0 _ _ (by rfl)) (@pe_int _ _ _ _)) (by rfl)) (by decide) (by rfl) (by rfl)) (by rfl))) (@cx _ 1 _ _ (by rfl)) (fun _ _ => rfl))) (by intro _; rfl)) (by rfl)) (by decide) (by decide) (by rfl) (by rfl)) (by rfl)) (by rfl) (by rfl) (by rfl) (by rfl) (by rfl)) (by rfl))) (by intro _; rfl)) (@pss_one _ _ _ (@ps_ret _ _ _ _ (@pe_callTy _ _ _ _ _ _ _ _ _ (@tupOf _ K (by rfl)) rfl T.b_tuple boot_tuple' (@pa1 _ _ _ (@cx _ 3 _ _ (by rfl)) (by rfl)) (by decide) (by decide) (by rfl) (by rfl)))))), ?_⟩
 unfold sp__law_firing at h
 split at h
 ·rename_i p v
  obtain ⟨pn, P, S, ok, so, r, q⟩ := h
  have x8 := so.x8
  have b4 := ok.b4
  refine ⟨pn, by decide, by decide, fun way H1 a1 c1 e1 pn1 R hR l0 hl0 => ⟨l0, _, rfl, SqT.of upd_same, rfl, _, _, rfl, _, _, rfl, rfl, ?_⟩⟩
  have nR : R ≠ p := pn1.ne hR
  have hHR : H R = none := by
   cases z : H R with
   | none => rfl
   | some o => exact ((e1 R o z).elim (fun ⟨x, _⟩ => absurd x nR) fun x => by rw [x] at hR; cases hR)
  have s2 : Same H1 (upd (upd H1 R (.lst [])) l0 (.tup [.int way, .ref R])) := (Same.new hR).trans (Same.new hl0)
  have hR2 := (Same.new (o := .tup [.int way, .ref R]) hl0) _ _ (upd_same (H := H1) (a := R) (o := .lst []))
  unfold capsD at r
  obtain ⟨A, xs, rfl, hA, rx⟩ := Rep.shape (Rep.ev (e1.trans (Ev.same s2)) _ _ r)
  have lx := rx.len
  rw [List.length_map, caps_len] at lx
  refine ⟨A, rfl, ⟨xs, SqT.of hA⟩, for_tup (xs := xs) (fun i σ H2 => (∃ x4, σ = [some (.ref p), some (.ref A), some (.int way), some (.ref R), x4]) ∧ Ev p (upd (upd H1 R (.lst [])) l0 (.tup [.int way, .ref R])) (upd H2 R (.lst [])) ∧ Ev p H H2 ∧ Pen p H2 ∧ ∃ ys F, H2 R = some (.lst ys) ∧ Reps p H2 (F.map rowD) ys ∧ F.length = i ∧ ∀ (k : Nat) (r c : List Int), F[k]? = some r → (caps P S)[k]? = some c → RowIn r c)
   ⟨⟨_, rfl⟩, ?_, e1.trans (Ev.same s2), pn1.same s2, [], [], hR2, .nil, rfl, (fun k r c h => by simp at h)⟩ (fun i σ H2 _ h => ?_) (fun i x σ H2 hx h => ?_) fun σ H2 h => ?_⟩
  ·intro b o hb
   by_cases z : b = R
   ·subst z; rw [hR2] at hb; cases hb; exact .inr upd_same
   ·exact .inr (by rw [upd_ne z]; exact hb)
  ·have ha := h.2.1.tup hA
   have : A ≠ R := by
    intro z
    subst z
    rw [hR2] at hA; cases hA
   rw [upd_ne this] at ha
   exact SqT.of ha
  ·obtain ⟨⟨x4, rfl⟩, ev0, ev, pn2, ys, F, hRy, rF, lF, hin⟩ := h
   obtain ⟨cs, hcs, rcs⟩ := Reps.mapGot rx hx
   have hcb := (caps_bd ok cs (List.mem_of_getElem? hcs)).1
   have hcl := (caps_bd ok cs (List.mem_of_getElem? hcs)).2
   obtain ⟨C, rfl, hC⟩ := Rep.ofRow rcs
   have hC2 : H2 C = some (.tup (cs.map V.int)) := by
    have ha := ev0.tup hC
    have : C ≠ R := by
     intro z
     subst z
     rw [hR2] at hC; cases hC
    rw [upd_ne this] at ha
    exact ha
   refine ⟨.inl ⟨rfl, _, SqL.of hRy⟩, C, rfl, ⟨_, SqT.of hC2⟩, walk_tup (xs := cs.map V.int) (fun j zs H3 => Ev p H2 H3 ∧ Pen p H3 ∧ ∃ ns : List Int, zs = ns.map V.int ∧ ns.length = j ∧ ∀ (k : Nat) (x y : Int), ns[k]? = some x → cs[k]? = some y → 0 ≤ x ∧ x ≤ y) (by rw [List.length_map]; omega) ⟨Ev.refl, pn2, [], rfl, rfl, (fun k x y h => by simp at h)⟩ (fun j zs H3 h => ?_) (fun j zs H3 _ h => SqT.of (h.1.tup hC2)) (fun j x zs H3 hx h => ?_) fun zs H3 h => ?_⟩
   ·obtain ⟨_, _, ns, rfl, hn, _⟩ := h
    rw [List.length_map]; omega
   ·obtain ⟨e3, pn3, ns, rfl, hn, hb⟩ := h
    rw [List.getElem?_map] at hx
    cases z : cs[j]? with
    | none => rw [z] at hx; cases hx
    | some c =>
     rw [z] at hx
     cases hx
     have hc9 := hcb c (List.mem_of_getElem? z)
     refine ⟨⟨rfl, rfl, trivial⟩, fun _ => ⟨pn3, by omega, by omega, fun g1 H4 a4 c4 e4 pn4 => ⟨pn4, by omega, by omega, fun g2 H5 a5 c5 e5 pn5 l hl => ?_⟩⟩, fun z => by cases z⟩
     obtain ⟨vv, hvv, hat⟩ := pick (ns := [c, 0, g1, g2]) a1 (by simpa using c1)
     have hv' : 0 ≤ vv ∧ vv ≤ c := by
      simp only [List.mem_cons, List.not_mem_nil, or_false] at hvv
      omega
     refine ⟨l, _, way, .int vv, rfl, rfl, SqL.of upd_same, hat, e3.trans (e4.trans (e5.trans (Ev.new hl))), pn5.new hl, ns ++ [vv], by rw [List.map_append]; rfl, by rw [List.length_append, hn]; rfl, fun k x y hx hy => ?_⟩
     rcases snoc_get hx with h | ⟨h1, h2⟩
     ·exact hb k x y h hy
     ·subst h2
      rw [h1, hn, z] at hy
      cases hy
      exact hv'
   ·obtain ⟨e3, pn3, ns, rfl, hn, hb⟩ := h
    rw [List.length_map] at hn
    intro m hm
    refine ⟨m, _, rfl, .inl ⟨SqL.of upd_same, fun t ht => ?_⟩⟩
    have n3 := (Same.new (o := .lst (ns.map V.int)) hm).trans (Same.new (o := .tup (ns.map V.int)) ht)
    have hR3 := n3 _ _ (e3.lst hRy nR)
    have lF2 := rF.len
    rw [List.length_map] at lF2
    have hi : i < xs.length := (List.getElem?_eq_some_iff.mp hx).1
    have tv := TEv.upd (zs := ys ++ [.ref t]) hR3
    refine ⟨R, ys, .ref t, rfl, rfl, hR3, small63 (by omega), ⟨_, rfl⟩, ?_, ((ev.trans e3).trans (Ev.same n3)).own hHR, ?_, ys ++ [.ref t], F ++ [ns], upd_same, ?_, by rw [List.length_append, lF]; rfl, fun k r c hr hc => ?_⟩
    ·intro b o hb'
     rcases ev0 b o hb' with z | z
     ·exact .inl z
     ·by_cases zb : b = R
      ·subst zb
       rw [upd_same] at z ⊢
       exact .inr z
      ·rw [upd_ne zb] at z
       rcases (e3.trans (Ev.same n3)) b o z with y | y
       ·exact .inl y
       ·exact .inr (by rw [upd_ne zb, upd_ne zb]; exact y)
    ·obtain ⟨l, f, e⟩ := pn3.same n3
     exact ⟨l, f, by rw [upd_ne (Ne.symm nR)]; exact e⟩
    ·rw [List.map_append]
     refine Reps.snoc (Reps.tev ((e3.trans (Ev.same n3)).tev.trans tv) _ _ (noMuts_all fun d hd => ?_) rF) (Rep.tev tv _ _ (noMut_row _) (Rep.row (p := p) upd_same))
     obtain ⟨rr, _, rfl⟩ := List.mem_map.mp hd
     exact noMut_row rr
    ·rcases snoc_get hr with h | ⟨h1, h2⟩
     ·exact hin k r c h hc
     ·subst h2
      rw [h1, lF, hcs] at hc
      cases hc
      exact ⟨hn, hb⟩
  ·obtain ⟨⟨x4, rfl⟩, ev0, ev, pn2, ys, F, hRy, rF, lF, hin⟩ := h
   refine ⟨R, ys, rfl, .inl ⟨SqL.of hRy, fun t ht => ?_⟩⟩
   refine q _ _ F ⟨by omega, fun i r hr => ?_, fun i r j x c hr hx hc => ?_⟩ (Rep.tup upd_same (Reps.ev (Ev.new ht) _ _ rF)) (ev.trans (Ev.new ht)) (pn2.new ht)
   ·have hi : i < S.ex.length := by
     have := (List.getElem?_eq_some_iff.mp hr).1
     omega
    have := (hin i r _ hr (caps_get hi)).1
    rw [this, capsIn_len]
   ·have hi : i < S.ex.length := by
     have := (List.getElem?_eq_some_iff.mp hr).1
     omega
    exact (hin i r _ hr (caps_get hi)).2 j x c hx hc
 ·exact h.elim
end
end MF

end

section
namespace MF
open PySem PySem.Spec PyProof.Rows L2
def isStr (n : Int) (d : PyData) : Bool := match d with
 | .tuple [a, b] => isWF b 0 (n - 1) && (match b with | .int l => isWF a 0 l | _ => false)
 | _ => false
def isShown (T : TM) (d : PyData) : Bool := isStr T.ds.length d && (match d with | .tuple [.int f, .int l] => tooMuch T f.toNat l.toNat | _ => false)
theorem isStr_nums {n : Int} {d : PyData} (h : isStr n d = true) : ∃ f l : Nat, d = pD (f, l) ∧ f ≤ l ∧ (l : Int) < n := by
 cases d <;> first | cases h | skip
 rename_i ds
 match ds, h with
 | [a, b], h =>
  unfold isStr at h
  dsimp only at h
  cases b <;> first | cases h | skip
  rename_i l
  obtain ⟨h1, h2⟩ := Bool.and_eq_true_iff.mp h
  dsimp only at h2
  cases a <;> first | cases h2 | skip
  rename_i f
  unfold isWF at h1 h2
  dsimp only at h1 h2
  obtain ⟨a1, a2⟩ := Bool.and_eq_true_iff.mp h1
  obtain ⟨b1, b2⟩ := Bool.and_eq_true_iff.mp h2
  have a1 := of_decide_eq_true a1
  have a2 := of_decide_eq_true a2
  have b1 := of_decide_eq_true b1
  have b2 := of_decide_eq_true b2
  obtain ⟨F, rfl⟩ : ∃ n : Nat, f = (n : Int) := ⟨f.toNat, by omega⟩
  obtain ⟨L, rfl⟩ : ∃ n : Nat, l = (n : Int) := ⟨l.toNat, by omega⟩
  exact ⟨F, L, rfl, by omega, by omega⟩
 | [], h => cases h
 | [_], h => cases h
 | _ :: _ :: _ :: _, h => cases h
theorem isStr_of {n f l : Nat} (h : f ≤ l) (hl : l < n) : isStr (n : Int) (pD (f, l)) = true := by
 unfold isStr
 dsimp only
 rw [isWF_ok (by omega) (by omega), isWF_ok (by omega) (by omega)]; rfl
theorem isShown_pD {T : TM} {f l : Nat} (hl : l < T.ds.length) : isShown T (pD (f, l)) = (decide (f ≤ l) && tooMuch T f l) := by
 unfold isShown
 by_cases c : f ≤ l
 ·rw [isStr_of c hl, decide_eq_true c]; rfl
 ·have e : isStr (T.ds.length : Int) (pD (f, l)) = false := by
   cases z : isStr (T.ds.length : Int) (pD (f, l)) with
   | false => rfl
   | true =>
    obtain ⟨F, L, e, h1, h2⟩ := isStr_nums z
    injection e with e
    injection e with e1 e2
    injection e2 with e2 _
    injection e1 with e1
    injection e2 with e2
    omega
  rw [e, decide_eq_false c]; rfl
def sp_is_stretch : Sp := fun vs H Q _ => match vs with | [.int n, v] => ∃ p d, Rep p H d v ∧ ∀ b H', b = isStr n d → Same H H' → Q (.bl b) H' | _ => False
def sp_is_shown : Sp := fun vs H Q _ => match vs with | [v, u] => ∃ p T d, TM.ok T ∧ Rep p H T.d v ∧ Rep p H d u ∧ ∀ b H', b = isShown T d → Same H H' → Q (.bl b) H' | _ => False
def sp_stretch_holds : Sp := fun vs H Q _ => match vs with | [v, u, w] => ∃ p P S d, PL.ok P ∧ SY.ok S P.bs.length ∧ Rep p H P.d v ∧ Rep p H S.d u ∧ Rep p H d w ∧ ∀ b H', b = isShown (terms P S) d → Same H H' → Q (.bl b) H' | _ => False
def sp_stretch_of : Sp := fun vs H Q _ => match vs with | [v, u] => ∃ p P S, PL.ok P ∧ SY.ok S P.bs.length ∧ Rep p H P.d v ∧ Rep p H S.d u ∧ ret H Q p (strD (leastStr (terms P S))) | _ => False
def sp_least_coal : Sp := fun vs H Q _ => match vs with | [v, u] => ∃ p P S, PL.ok P ∧ SY.ok S P.bs.length ∧ Rep p H P.d v ∧ Rep p H S.d u ∧ (leastStr (terms P S) ≠ none → ∀ H', Same H H' → Q .non H') ∧ (leastStr (terms P S) = none → ∀ f ps H', HiFl (terms P S) f ps → Same H H' → Q (.int f) H') | _ => False
theorem c_neg1 {X : Cx} {j : Nat} {p q : Pos} : PE X (.UnaryOp .USub (.Constant (.int 1) j p) q) (tC (.int (-1))) := (pe_un un_neg pe_int).weak fun σ H Q z => ⟨1, rfl, z⟩
def mainsTo (P : PL) (S : SY) (F : List (List Int)) (k : Nat) : List Int := (List.range k).map fun i => mainAt P S F (i + 1)
def leanD (T : TM) : PyData := match leastStr T with | none => rowD (leastMs T) | some _ => .none
def sp_least_mains : Sp := fun vs H Q _ => match vs with | [v] => ∃ p T, TM.ok T ∧ 1 ≤ T.ds.length ∧ Rep p H T.d v ∧ ∀ L H', Same H H' → H L = none → H' L = some (.lst ((leastMs T).map V.int)) → Q (.ref L) H' | _ => False
def sp_leanest : Sp := fun vs H Q _ => match vs with | [v, u] => ∃ p P S, PL.ok P ∧ SY.ok S P.bs.length ∧ Rep p H P.d v ∧ Rep p H S.d u ∧ ret H Q p (leanD (terms P S)) | _ => False
def sp_fullest : Sp := fun vs H Q _ => match vs with | [v, u] => ∃ p P S, PL.ok P ∧ SY.ok S P.bs.length ∧ Rep p H P.d v ∧ Rep p H S.d u ∧ ∀ k s w H', Run P S (caps P S) k s → Same H H' → Rep p H' (rowD (mainsTo P S (caps P S) k)) w → Q w H' | _ => False
def lmL (T : TM) (i : Nat) : List V := ((List.range i).map (lmF T)).map V.int
theorem lmL_next {T : TM} {i : Nat} : lmL T (i + 1) = lmL T i ++ [.int (lmF T i)] := by unfold lmL; rw [List.range_succ, List.map_append, List.map_append]; rfl
theorem lmL_len {T : TM} {i : Nat} : (lmL T i).length = i := by unfold lmL; simp
theorem lmL_rev {T : TM} : (lmL T T.ds.length).reverse = (leastMs T).map V.int := by
 unfold lmL leastMs
 rw [← List.map_reverse, ← List.map_reverse]
 congr 1
 refine List.ext_getElem? fun k => ?_
 by_cases hk : k < T.ds.length
 ·rw [List.getElem?_map, List.getElem?_map, List.getElem?_reverse (by simpa using hk), List.getElem?_range hk, List.length_range, List.getElem?_range (by omega)]
  show some (lmF T _) = some (lz T (k + 1))
  unfold lz
  rw [show T.ds.length - 1 - k = T.ds.length - (k + 1) from by omega]
 ·rw [List.getElem?_eq_none (by simp; omega), List.getElem?_eq_none (by simp; omega)]
theorem Reps.at1 {p : Addr} {H : Hp} {fs : List (List Int)} {xs : List V} (r : Reps p H (fs.map rowD) xs) {k : Nat} (hk : k < fs.length) : ∃ ra, xs[k]? = some (.ref ra) ∧ H ra = some (.tup ((fs.getD k []).map V.int)) := by
 obtain ⟨y, hy, ry⟩ := r.get (i := k) (d := rowD (fs.getD k [])) (by rw [List.getElem?_map, List.getElem?_eq_getElem hk, List.getD_eq_getElem?_getD, List.getElem?_eq_getElem hk]; rfl)
 obtain ⟨ra, rfl, hra⟩ := Rep.ofRow ry
 exact ⟨ra, hy, hra⟩
section
variable {P : Program} {w : World} {K : PySem.W.Frag} {mg : Str → Option Value} {base : Heap}
theorem sc_is_stretch : FnScope ["hours", "thing", "first", "last"] ["hours", "thing"] (defScope s_is_stretch) := ⟨rfl, rfl, rfl, by decide +kernel, rfl, by decide +kernel, by decide +kernel⟩
theorem ok_is_stretch (F : Df K mg "is_stretch" s_is_stretch ["hours", "thing"]) (T : Tx mg) (D_is_tuple_of : Fn P w K mg base 1 "is_tuple_of" ["thing", "fewest", "most"] sp_is_tuple_of) (D_is_whole_from : Fn P w K mg base 2 "is_whole_from" ["thing", "least", "most"] sp_is_whole_from) : Fn P w K mg base 3 "is_stretch" ["hours", "thing"] sp_is_stretch := by
 refine F.fn sc_is_stretch (fun vs H Q E h => ?_) (fun f cdv A outer s H vs Q E hr h => ?_)
 ·unfold sp_is_stretch at h; split at h; rfl; exact h.elim
 refine ⟨_, (@pss_cons _ _ _ _ _ (@c_if _ _ _ _ _ _ _ _ (@pt_not _ _ _ _ (@c_val _ _ _ (@c_call _ _ _ _ _ _ _ _ _ _ D_is_tuple_of (hr.mono (by decide)) rfl (@pa3 _ _ _ _ _ _ _ (@cx _ 1 _ _ (by rfl)) (@pe_int _ _ _ _) (@pe_int _ _ _ _) (by rfl)) (by decide) (by rfl) (by rfl)) (by intro _; rfl))) (@pss_one _ _ _ (@ps_ret _ _ _ _ (@pe_bl _ _ _ _))) (@pss_nil _)) (@pss_cons _ _ _ _ _ (@ps_asg _ _ _ _ _ _ (@cx _ 1 _ _ (by rfl)) (@pgT _ K _ _ _ (2) _ (@pgs_cons _ _ _ _ _ (@pgx _ _ _ 2 sc_is_stretch.nd (by rfl)) (@pgs_cons _ _ _ _ _ (@pgx _ _ _ 3 sc_is_stretch.nd (by rfl)) (@pgs_nil _) (by rfl)) (by rfl)) (by rfl) (by rfl) (by rfl) (by rfl)) (by rfl) (by rfl) (by rfl)) (@pss_one _ _ _ (@ps_ret _ _ _ _ (@c_andV _ _ _ _ _ _ _ (@c_call _ _ _ _ _ _ _ _ _ _ D_is_whole_from (hr.mono (by decide)) rfl (@pa3 _ _ _ _ _ _ _ (@cx _ 3 _ _ (by rfl)) (@pe_int _ _ _ _) (@pe_op _ _ _ _ _ _ _ _ (@o_sub _) (@cx _ 0 _ _ (by rfl)) (@pe_int _ _ _ _)) (by rfl)) (by decide) (by rfl) (by rfl)) (@pe_one _ _ _ _ _ (@c_call _ _ _ _ _ _ _ _ _ _ D_is_whole_from (hr.mono (by decide)) rfl (@pa3 _ _ _ _ _ _ _ (@cx _ 2 _ _ (by rfl)) (@pe_int _ _ _ _) (@cx _ 3 _ _ (by rfl)) (by rfl)) (by decide) (by rfl) (by rfl)))))))), ?_⟩
 unfold sp_is_stretch at h
 split at h
 ·rename_i n v
  obtain ⟨p, d, r, q⟩ := h
  refine ⟨p, d, r, fun b hb => ⟨fun c => ?_, fun c => ?_⟩⟩
  ·refine q false H ?_ (Same.refl _)
   have e : isTO d 2 2 = false := by rw [← hb]; simpa using c
   cases d <;> first | rfl | skip
   rename_i ds
   match ds, e with
   | [a, b], e => cases e
   | [], _ => rfl
   | [_], _ => rfl
   | _ :: _ :: _ :: _, _ => rfl
  ·have e : isTO d 2 2 = true := by rw [← hb]; simpa using c
   obtain ⟨ds, rfl⟩ := isTO_tup e
   obtain ⟨a, b, rfl⟩ := two e
   obtain ⟨l, xs, rfl, hl, rs⟩ := Rep.shape r
   obtain ⟨x, y, rfl, rx, ry⟩ := Reps.two rs
   refine ⟨l, [x, y], rfl, SqT.of hl, rfl, x, [y], rfl, y, [], rfl, rfl, p, b, ry, fun b1 e1 => ⟨fun c1 => ?_, fun c1 => ?_⟩⟩
   ·rw [c1] at e1
    cases b <;> first | cases e1 | skip
    rename_i li
    unfold Rep at ry
    subst ry
    refine ⟨p, a, rx, fun b2 e2 => ?_⟩
    exact q _ _ (by unfold isStr; dsimp only; rw [e2, ← e1]; rfl) (Same.refl _)
   ·exact q _ _ (by unfold isStr; dsimp only; rw [← e1, c1]; rfl) (Same.refl _)
 ·exact h.elim
theorem sc_is_shown : FnScope ["terms", "thing", "caps", "coals", "draws", "main"] ["terms", "thing"] (defScope s_is_shown) := ⟨rfl, rfl, rfl, by decide +kernel, rfl, by decide +kernel, by decide +kernel⟩
theorem ok_is_shown (F : Df K mg "is_shown" s_is_shown ["terms", "thing"]) (T : Tx mg) (D_is_stretch : Fn P w K mg base 3 "is_stretch" ["hours", "thing"] sp_is_stretch) (D_is_too_much : Fn P w K mg base 1 "is_too_much" ["terms", "stretch"] sp_is_too_much) : Fn P w K mg base 4 "is_shown" ["terms", "thing"] sp_is_shown := by
 refine F.fn sc_is_shown (fun vs H Q E h => ?_) (fun f cdv A outer s H vs Q E hr h => ?_)
 ·unfold sp_is_shown at h; split at h; rfl; exact h.elim
 refine ⟨_, (@pss_cons _ _ _ _ _ (@ps_asg _ _ _ _ _ _ (@cx _ 0 _ _ (by rfl)) (@pgT _ K _ _ _ (4) _ (@pgs_cons _ _ _ _ _ (@pgx _ _ _ 2 sc_is_shown.nd (by rfl)) (@pgs_cons _ _ _ _ _ (@pgx _ _ _ 3 sc_is_shown.nd (by rfl)) (@pgs_cons _ _ _ _ _ (@pgx _ _ _ 4 sc_is_shown.nd (by rfl)) (@pgs_cons _ _ _ _ _ (@pgx _ _ _ 5 sc_is_shown.nd (by rfl)) (@pgs_nil _) (by rfl)) (by rfl)) (by rfl)) (by rfl)) (by rfl) (by rfl) (by rfl) (by rfl)) (by rfl) (by rfl) (by rfl)) (@pss_one _ _ _ (@ps_ret _ _ _ _ (@c_andV _ _ _ _ _ _ _ (@c_call _ _ _ _ _ _ _ _ _ _ D_is_stretch (hr.mono (by decide)) rfl (@pa2 _ _ _ _ _ (@pe_callB _ _ _ _ _ _ _ _ _ (@lenS _ K (by rfl)) rfl T.b_len PySem.boot_len (@pa1 _ _ _ (@cx _ 4 _ _ (by rfl)) (by rfl)) (by decide) (by decide) (by rfl) (by rfl)) (@cx _ 1 _ _ (by rfl)) (by rfl)) (by decide) (by rfl) (by rfl)) (@pe_one _ _ _ _ _ (@c_call _ _ _ _ _ _ _ _ _ _ D_is_too_much (hr.mono (by decide)) rfl (@pa2 _ _ _ _ _ (@cx _ 0 _ _ (by rfl)) (@cx _ 1 _ _ (by rfl)) (by rfl)) (by decide) (by rfl) (by rfl))))))), ?_⟩
 unfold sp_is_shown at h
 split at h
 ·rename_i v u
  obtain ⟨p, T, d, ok, r, ru, q⟩ := h
  obtain ⟨A, C, B, D, M, xc, rfl, hA, hC, rc, hB, hD, hM⟩ := Rep.terms r
  refine ⟨A, _, rfl, SqT.of hA, rfl, _, _, rfl, _, _, rfl, _, _, rfl, _, _, rfl, rfl, ?_⟩
  refine ⟨D, _, rfl, .inr (SqT.of hD), p, d, ru, fun b H1 e1 s1 => ⟨fun c => ?_, fun c => ?_⟩⟩
  ·rw [c, List.length_map] at e1
   obtain ⟨f, l, rfl, hfl, hl⟩ := isStr_nums e1.symm
   refine ⟨p, T, f, l, ok, Rep.ev (Ev.same s1) _ _ r, Rep.ev (Ev.same s1) _ _ ru, hfl, by omega, fun H2 s2 => q _ _ ?_ (s1.trans s2)⟩
   rw [isShown_pD (by omega), decide_eq_true hfl]; rfl
  ·rw [c, List.length_map] at e1
   refine q _ _ ?_ s1
   unfold isShown
   rw [← e1]; rfl
 ·exact h.elim
theorem sc_stretch_holds : FnScope ["plant", "story", "thing"] ["plant", "story", "thing"] (defScope s_stretch_holds) := ⟨rfl, rfl, rfl, by decide +kernel, rfl, by decide +kernel, by decide +kernel⟩
theorem ok_stretch_holds (F : Df K mg "stretch_holds" s_stretch_holds ["plant", "story", "thing"]) (T : Tx mg) (D_is_shown : Fn P w K mg base 4 "is_shown" ["terms", "thing"] sp_is_shown) (D_terms_of : Fn P w K mg base 10 "terms_of" ["plant", "story"] sp_terms_of) : Fn P w K mg base 11 "stretch_holds" ["plant", "story", "thing"] sp_stretch_holds := by
 refine F.fn sc_stretch_holds (fun vs H Q E h => ?_) (fun f cdv A outer s H vs Q E hr h => ?_)
 ·unfold sp_stretch_holds at h; split at h; rfl; exact h.elim
 refine ⟨_, (@pss_one _ _ _ (@ps_ret _ _ _ _ (@c_call _ _ _ _ _ _ _ _ _ _ D_is_shown (hr.mono (by decide)) rfl (@pa2 _ _ _ _ _ (@c_call _ _ _ _ _ _ _ _ _ _ D_terms_of (hr.mono (by decide)) rfl (@pa2 _ _ _ _ _ (@cx _ 0 _ _ (by rfl)) (@cx _ 1 _ _ (by rfl)) (by rfl)) (by decide) (by rfl) (by rfl)) (@cx _ 2 _ _ (by rfl)) (by rfl)) (by decide) (by rfl) (by rfl)))), ?_⟩
 unfold sp_stretch_holds at h
 split at h
 ·rename_i v u w
  obtain ⟨p, P, S, d, ok, so, r, ru, rd, q⟩ := h
  exact ⟨p, P, S, ok, so, r, ru, fun t H1 s1 rt => ⟨p, terms P S, d, terms_ok so, rt, Rep.ev (Ev.same s1) _ _ rd, fun b H2 e s2 => q b H2 e (s1.trans s2)⟩⟩
 ·exact h.elim
theorem sc_stretch_of : FnScope ["plant", "story"] ["plant", "story"] (defScope s_stretch_of) := ⟨rfl, rfl, rfl, by decide +kernel, rfl, by decide +kernel, by decide +kernel⟩
theorem ok_stretch_of (F : Df K mg "stretch_of" s_stretch_of ["plant", "story"]) (T : Tx mg) (D_least_stretch : Fn P w K mg base 2 "least_stretch" ["terms"] sp_least_stretch) (D_terms_of : Fn P w K mg base 10 "terms_of" ["plant", "story"] sp_terms_of) : Fn P w K mg base 11 "stretch_of" ["plant", "story"] sp_stretch_of := by
 refine F.fn sc_stretch_of (fun vs H Q E h => ?_) (fun f cdv A outer s H vs Q E hr h => ?_)
 ·unfold sp_stretch_of at h; split at h; rfl; exact h.elim
 refine ⟨_, (@pss_one _ _ _ (@ps_ret _ _ _ _ (@c_call _ _ _ _ _ _ _ _ _ _ D_least_stretch (hr.mono (by decide)) rfl (@pa1 _ _ _ (@c_call _ _ _ _ _ _ _ _ _ _ D_terms_of (hr.mono (by decide)) rfl (@pa2 _ _ _ _ _ (@cx _ 0 _ _ (by rfl)) (@cx _ 1 _ _ (by rfl)) (by rfl)) (by decide) (by rfl) (by rfl)) (by rfl)) (by decide) (by rfl) (by rfl)))), ?_⟩
 unfold sp_stretch_of at h
 split at h
 ·rename_i v u
  obtain ⟨p, P, S, ok, so, r, ru, q⟩ := h
  exact ⟨p, P, S, ok, so, r, ru, fun t H1 s1 rt => ⟨p, terms P S, terms_ok so, rt, fun v H2 s2 r2 => q v H2 (s1.trans s2) r2⟩⟩
 ·exact h.elim
theorem sc_least_coal : FnScope ["plant", "story"] ["plant", "story"] (defScope s_least_coal) := ⟨rfl, rfl, rfl, by decide +kernel, rfl, by decide +kernel, by decide +kernel⟩
theorem ok_least_coal (F : Df K mg "least_coal" s_least_coal ["plant", "story"]) (T : Tx mg) (D_coal_under : Fn P w K mg base 4 "coal_under" ["terms"] sp_coal_under) (D_terms_of : Fn P w K mg base 10 "terms_of" ["plant", "story"] sp_terms_of) : Fn P w K mg base 11 "least_coal" ["plant", "story"] sp_least_coal := by
 refine F.fn sc_least_coal (fun vs H Q E h => ?_) (fun f cdv A outer s H vs Q E hr h => ?_)
 ·unfold sp_least_coal at h; split at h; rfl; exact h.elim
 refine ⟨_, (@pss_one _ _ _ (@ps_ret _ _ _ _ (@c_call _ _ _ _ _ _ _ _ _ _ D_coal_under (hr.mono (by decide)) rfl (@pa1 _ _ _ (@c_call _ _ _ _ _ _ _ _ _ _ D_terms_of (hr.mono (by decide)) rfl (@pa2 _ _ _ _ _ (@cx _ 0 _ _ (by rfl)) (@cx _ 1 _ _ (by rfl)) (by rfl)) (by decide) (by rfl) (by rfl)) (by rfl)) (by decide) (by rfl) (by rfl)))), ?_⟩
 unfold sp_least_coal at h
 split at h
 ·rename_i v u
  obtain ⟨p, P, S, ok, so, r, ru, q1, q2⟩ := h
  refine ⟨p, P, S, ok, so, r, ru, fun t H1 s1 rt => ⟨p, terms P S, terms_fl ok so, rt, fun n H2 s2 => q1 n _ (s1.trans s2), fun n f ps H2 hf s2 => q2 n f ps _ hf (s1.trans s2)⟩⟩
 ·exact h.elim
theorem sc_least_mains : FnScope ["terms", "caps", "coals", "draws", "low", "high", "start", "told", "row", "drawn"] ["terms"] (defScope s_least_mains) := ⟨rfl, rfl, rfl, by decide +kernel, rfl, by decide +kernel, by decide +kernel⟩
theorem ok_least_mains (F : Df K mg "least_mains" s_least_mains ["terms"]) (T : Tx mg)  : Fn P w K mg base 1 "least_mains" ["terms"] sp_least_mains := by
 refine F.fn sc_least_mains (fun vs H Q E h => ?_) (fun f cdv A outer s H vs Q E hr h => ?_)
 ·unfold sp_least_mains at h; split at h; rfl; exact h.elim
 refine ⟨_, (@pss_cons _ _ _ _ _ (@ps_asg _ _ _ _ _ _ (@cx _ 0 _ _ (by rfl)) (@pgT _ K _ _ _ (4) _ (@pgs_cons _ _ _ _ _ (@pgx _ _ _ 1 sc_least_mains.nd (by rfl)) (@pgs_cons _ _ _ _ _ (@pgx _ _ _ 2 sc_least_mains.nd (by rfl)) (@pgs_cons _ _ _ _ _ (@pgx _ _ _ 3 sc_least_mains.nd (by rfl)) (@pgs_cons _ _ _ _ _ (@pgT _ K _ _ _ (3) _ (@pgs_cons _ _ _ _ _ (@pgx _ _ _ 4 sc_least_mains.nd (by rfl)) (@pgs_cons _ _ _ _ _ (@pgx _ _ _ 5 sc_least_mains.nd (by rfl)) (@pgs_cons _ _ _ _ _ (@pgx _ _ _ 6 sc_least_mains.nd (by rfl)) (@pgs_nil _) (by rfl)) (by rfl)) (by rfl)) (by rfl) (by rfl) (by rfl) (by rfl)) (@pgs_nil _) (by rfl)) (by rfl)) (by rfl)) (by rfl)) (by rfl) (by rfl) (by rfl) (by rfl)) (by rfl) (by rfl) (by rfl)) (@pss_cons _ _ _ _ _ (@ps_set _ _ (7) _ _ _ _ sc_least_mains.nd rfl (loc_of (by rfl)) (@c_lstG _ _ _ _ (@pa1 _ _ _ (@cx _ 4 _ _ (by rfl)) (by rfl))) (by rfl) (fl_of (by rfl))) (@pss_cons _ _ _ _ _ (@ps_for _ _ _ _ _ _ _ _ PassesOwn.never rfl (piRevL K rfl T.b_reversed (@pa1 _ _ _ (cLZTT P w K rfl T.b_list rfl T.b_zip (@pa2 _ _ _ _ _ (@pe_slice _ _ _ _ _ _ _ _ _ _ (@s_tup _) (@cx _ 1 _ _ (by rfl)) (@po_some _ _ _ (@pe_int _ _ _ _)) (@po_none _)) (@pe_slice _ _ _ _ _ _ _ _ _ _ (@s_tup _) (@cx _ 3 _ _ (by rfl)) (@po_some _ _ _ (@pe_int _ _ _ _)) (@po_none _)) (by rfl))) (by rfl))) (@pgT _ K _ _ _ (2) _ (@pgs_cons _ _ _ _ _ (@pgx _ _ _ 8 sc_least_mains.nd (by rfl)) (@pgs_cons _ _ _ _ _ (@pgx _ _ _ 9 sc_least_mains.nd (by rfl)) (@pgs_nil _) (by rfl)) (by rfl)) (by rfl) (by rfl) (by rfl) (by rfl)) (@pss_one _ _ _ (@ps_expr _ _ _ _ (@pe_bm _ _ _ _ _ _ _ _ _ _ _ _ PySem.F.plainAttrs_list PySem.F.slot_list_append PySem.F.type_list_append mt_append (@cx _ 7 _ _ (by rfl)) (@pa1 _ _ _ (@pe_callB _ _ _ _ _ _ _ _ _ (@call_max2 _ rfl) rfl T.b_max boot_max (@pa2 _ _ _ _ _ (@cx _ 4 _ _ (by rfl)) (@pe_op _ _ _ _ _ _ _ _ (@o_sub _) (@pe_op _ _ _ _ _ _ _ _ (@o_add _) (@pe_ix _ _ _ _ _ _ _ (@ixL _ K (by rfl)) (@cx _ 7 _ _ (by rfl)) c_neg1 (fun _ _ => rfl)) (@cx _ 9 _ _ (by rfl))) (@pe_callB _ _ _ _ _ _ _ _ _ (@call_sumS _ rfl) rfl T.b_sum boot_sum (@pa1 _ _ _ (@cx _ 8 _ _ (by rfl)) (by rfl)) (by decide) (by decide) (by rfl) (by rfl))) (by rfl)) (by decide) (by decide) (by rfl) (by rfl)) (by rfl)) (by rfl) (by rfl) (by rfl) (by rfl) (by rfl)) (by rfl))) (by intro _; rfl)) (@pss_one _ _ _ (@ps_ret _ _ _ _ (@c_revL _ _ _ _ _ _ (@cx _ 7 _ _ (by rfl)) (c_neg1))))))), ?_⟩
 unfold sp_least_mains at h
 split at h
 ·rename_i v
  obtain ⟨p, T, ok, n1, r, q⟩ := h
  obtain ⟨A', C, B, D, M, xc, rfl, hA, hC, rc, hB, hD, hM⟩ := Rep.terms r
  have l8 := ok.l8
  have lc := ok.lc
  have lx := rc.len
  rw [List.length_map] at lx
  refine ⟨A', _, rfl, SqT.of hA, rfl, _, _, rfl, _, _, rfl, _, _, rfl, _, _, rfl, M, _, rfl, SqT.of hM, rfl, _, _, rfl, _, _, rfl, _, _, rfl, rfl, rfl, ?_⟩
  refine fun L H1 s1 hL kL => ?_
  refine ⟨1, rfl, C, xc, rfl, s1 _ _ hC, fun c1 H2 s2 k2 => ⟨1, rfl, D, _, rfl, (s1.trans s2) _ _ hD, fun d1 H3 s3 k3 => ?_⟩⟩
  rw [cut1] at k2 k3
  refine ⟨c1, d1, rfl, ⟨_, SqT.of (s3 _ _ k2)⟩, ⟨_, SqT.of k3⟩, _, _, SqT.of (s3 _ _ k2), SqT.of k3, by rw [List.length_drop, List.length_drop, List.length_map]; omega, by rw [List.length_drop]; omega, fun Z H4 Ts s4 hZ kZ lT zd => ?_⟩
  rw [List.length_drop] at lT
  have s14 := s2.trans (s3.trans s4)
  have kL4 := s14 _ _ kL
  have sH4 := s1.trans s14
  have nZ : Z ≠ L := fun e => by rw [e, (s2.trans s3) _ _ kL] at hZ; cases hZ
  refine ⟨Z, _, rfl, SqL.of kZ, for_rev (xs := Ts.map V.ref) (fun i σ H' => (∃ x8 x9, σ = [some (.ref A'), some (.ref C), some (.ref B), some (.ref D), some (.int T.lo), some (.int T.hi), some (.int T.st), some (.ref L), x8, x9]) ∧ Ev L H4 H' ∧ H' L = some (.lst (lmL T i ++ [.int (lmF T i)]))) ⟨⟨_, _, rfl⟩, Ev.refl, kL4⟩ (fun i σ H' _ h => SqL.of (h.2.1.lst kZ nZ)) (fun i x σ H' hi hx h => ?_) fun σ H' h => ?_⟩
  ·obtain ⟨⟨x8, x9, rfl⟩, ev, kl⟩ := h
   rw [List.length_map] at hi hx
   obtain ⟨t, ht, rfl⟩ : ∃ t, Ts[Ts.length - 1 - i]? = some t ∧ x = .ref t := by
    rw [List.getElem?_map] at hx
    cases z : Ts[Ts.length - 1 - i]? with
    | none => rw [z] at hx; cases hx
    | some t => rw [z] at hx; cases hx; exact ⟨t, rfl, rfl⟩
   have ei : Ts.length - 1 - i + 1 = T.ds.length - 1 - i := by omega
   obtain ⟨ra, hra, kra⟩ := Reps.at1 rc (k := T.ds.length - 1 - i) (by omega)
   have h1 : (xc.drop 1)[Ts.length - 1 - i]? = some (.ref ra) := by rw [List.getElem?_drop, Nat.add_comm, ei]; exact hra
   have h2 : ((T.ds.map V.int).drop 1)[Ts.length - 1 - i]? = some (.int (T.ds.getD (T.ds.length - 1 - i) 0)) := by
    rw [List.getElem?_drop, Nat.add_comm, ei, List.getElem?_map, List.getD_eq_getElem?_getD, List.getElem?_eq_getElem (by omega)]; rfl
   have kt := ev.tup (zd _ _ _ _ ht h1 h2)
   have kra' := ev.tup (sH4 _ _ kra)
   refine ⟨t, _, rfl, SqT.of kt, rfl, _, _, rfl, _, _, rfl, rfl, ?_⟩
   refine ⟨.inl ⟨rfl, _, SqL.of kl⟩, L, _, -1, _, rfl, rfl, SqL.of kl, atI_last _ _, ra, _, rfl, .inr kra', _, _, rfl, L, _, _, rfl, rfl, kl, small63 (by rw [List.length_append, lmL_len, List.length_singleton]; omega), ⟨_, _, rfl⟩, ev.trans (Ev.pen kl), ?_⟩
   rw [lmL_next]
   exact upd_same
  ·obtain ⟨⟨x8, x9, rfl⟩, ev, kl⟩ := h
   rw [List.length_map, lT, ← lmL_next, show xc.length - 1 + 1 = T.ds.length from by omega] at kl
   refine ⟨L, _, rfl, kl, fun l hl => ?_⟩
   rw [lmL_rev]
   have hl0 : H l = none := sH4.free (by
    cases z : H4 l with
    | none => rfl
    | some o =>
     rcases ev l o z with ⟨e, ys, w'⟩ | w'
     ·rw [e, kl] at hl; cases hl
     ·rw [w'] at hl; cases hl)
   exact q l _ ((Same.evOwn sH4 hL ev).trans (Same.new hl)) hl0 upd_same
 ·exact h.elim
theorem sc_leanest : FnScope ["plant", "story", "terms"] ["plant", "story"] (defScope s_leanest) := ⟨rfl, rfl, rfl, by decide +kernel, rfl, by decide +kernel, by decide +kernel⟩
theorem ok_leanest (F : Df K mg "leanest" s_leanest ["plant", "story"]) (T : Tx mg) (D_least_mains : Fn P w K mg base 1 "least_mains" ["terms"] sp_least_mains) (D_least_stretch : Fn P w K mg base 2 "least_stretch" ["terms"] sp_least_stretch) (D_terms_of : Fn P w K mg base 10 "terms_of" ["plant", "story"] sp_terms_of) : Fn P w K mg base 11 "leanest" ["plant", "story"] sp_leanest := by
 refine F.fn sc_leanest (fun vs H Q E h => ?_) (fun f cdv A outer s H vs Q E hr h => ?_)
 ·unfold sp_leanest at h; split at h; rfl; exact h.elim
 refine ⟨_, (@pss_cons _ _ _ _ _ (@ps_set _ _ (2) _ _ _ _ sc_leanest.nd rfl (loc_of (by rfl)) (@c_call _ _ _ _ _ _ _ _ _ _ D_terms_of (hr.mono (by decide)) rfl (@pa2 _ _ _ _ _ (@cx _ 0 _ _ (by rfl)) (@cx _ 1 _ _ (by rfl)) (by rfl)) (by decide) (by rfl) (by rfl)) (by rfl) (fl_of (by rfl))) (@pss_one _ _ _ (@ps_ret _ _ _ _ (@c_ifE _ _ _ _ _ _ _ _ (@c_cmpT _ _ _ _ _ _ _ _ (@op_notN _) (@c_call _ _ _ _ _ _ _ _ _ _ D_least_stretch (hr.mono (by decide)) rfl (@pa1 _ _ _ (@cx _ 2 _ _ (by rfl)) (by rfl)) (by decide) (by rfl) (by rfl)) (@pe_non _ _ _) (nomark _)) (@pe_non _ _ _) (@pe_callTy _ _ _ _ _ _ _ _ _ (@tupOf _ K (by rfl)) rfl T.b_tuple boot_tuple' (@pa1 _ _ _ (@c_call _ _ _ _ _ _ _ _ _ _ D_least_mains (hr.mono (by decide)) rfl (@pa1 _ _ _ (@cx _ 2 _ _ (by rfl)) (by rfl)) (by decide) (by rfl) (by rfl)) (by rfl)) (by decide) (by decide) (by rfl) (by rfl)))))), ?_⟩
 unfold sp_leanest at h
 split at h
 ·rename_i v u
  obtain ⟨p, P, S, ok, so, r, ru, q⟩ := h
  have x1 := so.x1
  refine ⟨p, P, S, ok, so, r, ru, fun t H1 s1 rt => ?_⟩
  have tok : (terms P S).ok := terms_ok so
  refine ⟨p, terms P S, tok, rt, fun w H2 s2 rw2 => ⟨rfl, ?_⟩⟩
  unfold ret leanD at q
  cases z : leastStr (terms P S) with
  | none =>
   rw [z] at rw2 q
   have ew : w = .non := by unfold strD at rw2; unfold Rep at rw2; exact rw2
   subst ew
   refine ⟨fun c => by simp at c, fun _ => ?_⟩
   refine ⟨p, terms P S, tok, by show 1 ≤ (draws P S).length; rw [draws_len]; exact x1, Rep.ev (Ev.same s2) _ _ rt, fun L H3 s3 hL kL => ?_⟩
   refine ⟨L, _, rfl, .inl ⟨SqL.of kL, fun l hl => ?_⟩⟩
   exact q _ _ (s1.trans (s2.trans (s3.trans (Same.new hl)))) (Rep.row upd_same)
  | some s0 =>
   rw [z] at rw2 q
   obtain ⟨A', rfl, hA⟩ := Rep.pair rw2
   refine ⟨fun _ => ?_, fun c => (by simp at c)⟩
   exact q _ _ (s1.trans s2) (by unfold Rep; rfl)
 ·exact h.elim
theorem sc_fullest : FnScope ["plant", "story", "rows"] ["plant", "story"] (defScope s_fullest) := ⟨rfl, rfl, rfl, by decide +kernel, rfl, by decide +kernel, by decide +kernel⟩
theorem ok_fullest (F : Df K mg "fullest" s_fullest ["plant", "story"]) (T : Tx mg) (D_course : Fn P w K mg base 13 "course" ["plant", "story", "firing"] sp_course) (D_full_firing : Fn P w K mg base 10 "full_firing" ["plant", "story"] sp_full_firing) : Fn P w K mg base 14 "fullest" ["plant", "story"] sp_fullest := by
 refine F.fn sc_fullest (fun vs H Q E h => ?_) (fun f cdv A outer s H vs Q E hr h => ?_)
 ·unfold sp_fullest at h; split at h; rfl; exact h.elim
 refine ⟨_, (@pss_cons _ _ _ _ _ (@ps_set _ _ (2) _ _ _ _ sc_fullest.nd rfl (loc_of (by rfl)) (@c_call _ _ _ _ _ _ _ _ _ _ D_course (hr.mono (by decide)) rfl (@pa3 _ _ _ _ _ _ _ (@cx _ 0 _ _ (by rfl)) (@cx _ 1 _ _ (by rfl)) (@c_call _ _ _ _ _ _ _ _ _ _ D_full_firing (hr.mono (by decide)) rfl (@pa2 _ _ _ _ _ (@cx _ 0 _ _ (by rfl)) (@cx _ 1 _ _ (by rfl)) (by rfl)) (by decide) (by rfl) (by rfl)) (by rfl)) (by decide) (by rfl) (by rfl)) (by rfl) (fl_of (by rfl))) (@pss_one _ _ _ (@ps_ret _ _ _ _ (@pe_callTy _ _ _ _ _ _ _ _ _ (@tupOf _ K (by rfl)) rfl T.b_tuple boot_tuple' (@pa1 _ _ _ (@pe_comp _ _ _ _ _ _ _ _ _ _ _ ["made", "drawn", "blown", "main"] [none, none, none, none] rfl (@piL _ K _ _ _ (@cx _ 2 _ _ (by rfl)) (by rfl)) (BlockScope.of rfl) (fun _ _ _ _ => (@pgT _ K _ _ _ (4) _ (@pgs_cons _ _ _ _ _ (@pgx _ _ _ 0 (nd_of (by rfl)) (by rfl)) (@pgs_cons _ _ _ _ _ (@pgx _ _ _ 1 (nd_of (by rfl)) (by rfl)) (@pgs_cons _ _ _ _ _ (@pgx _ _ _ 2 (nd_of (by rfl)) (by rfl)) (@pgs_cons _ _ _ _ _ (@pgx _ _ _ 3 (nd_of (by rfl)) (by rfl)) (@pgs_nil _) (by rfl)) (by rfl)) (by rfl)) (by rfl)) (by rfl) (by rfl) (by rfl) (by rfl))) (fun _ _ _ _ => (@pts_nil _)) (fun _ _ _ _ => (@cx _ 3 _ _ (by rfl))) (by intro _; rfl)) (by rfl)) (by decide) (by decide) (by rfl) (by rfl))))), ?_⟩
 unfold sp_fullest at h
 split at h
 ·rename_i v u
  obtain ⟨p, P, S, ok, so, r, ru, q⟩ := h
  refine ⟨p, P, S, ok, so, r, ru, fun t H1 s1 rt => ?_⟩
  refine ⟨p, P, S, caps P S, ⟨ok, so, FOk.caps ok, Rep.ev (Ev.same s1) _ _ r, Rep.ev (Ev.same s1) _ _ ru, rt⟩, fun R H2 k s xs run s2 hR kR rx => ?_⟩
  have lx := rx.len
  rw [rowsD_len] at lx
  have kle := run.le
  have x8 := so.x8
  refine ⟨R, rfl, ⟨_, SqL.of kR⟩, walk_lst (xs := xs) (fun i ys H' => Same H2 H' ∧ ys = (mainsTo P S (caps P S) i).map V.int) (by omega) ⟨Same.refl _, rfl⟩ (fun i ys H' h => by rw [h.2, List.length_map]; unfold mainsTo; simp) (fun i ys H' _ h => SqL.of (h.1 _ _ kR)) (fun i x ys H' hx h => ?_) fun ys H3 h => ?_⟩
  ·have rx' : Reps p H2 ((List.range k).map (row4 P S (caps P S))) xs := rx
   obtain ⟨j, hj, rj⟩ := Reps.mapGot rx' hx
   have ej : j = i := by
    have hi := (List.getElem?_eq_some_iff.mp hj).1
    rw [List.length_range] at hi
    rw [List.getElem?_range hi] at hj
    cases hj; rfl
   subst ej
   obtain ⟨s3, rfl⟩ := h
   obtain ⟨A', zs, rfl, hA, rs⟩ := Rep.shape rj
   obtain ⟨y1, y2, y3, y4, rfl, r1, r2, r3, r4⟩ := Reps.four rs
   unfold Rep at r1 r2 r3 r4
   subst r1 r2 r3 r4
   refine ⟨A', _, rfl, SqT.of (s3 _ _ hA), rfl, _, _, rfl, _, _, rfl, _, _, rfl, _, _, rfl, rfl, ⟨trivial, fun _ => ⟨s3, ?_⟩, fun c => (by cases c)⟩⟩
   unfold mainsTo
   rw [List.range_succ, List.map_append, List.map_append]; rfl
  ·obtain ⟨s3, rfl⟩ := h
   rw [← lx] at *
   refine fun l hl => ⟨l, _, rfl, .inl ⟨SqL.of upd_same, fun m hm => ?_⟩⟩
   exact q k s _ _ run (s1.trans (s2.trans (s3.trans ((Same.new hl).trans (Same.new hm))))) (Rep.row upd_same)
 ·exact h.elim
end
end MF

end

section
namespace MF
open PySem PySem.Spec PyProof.Rows L2
def sp__law_behind : Sp := fun vs H Q _ => match vs with | [v, u, .int h, .int m] => ∃ p P S, ∃ n : Nat, h = (n : Int) ∧ PL.ok P ∧ SY.ok S P.bs.length ∧ Rep p H P.d v ∧ Rep p H S.d u ∧ ret H Q p (.tuple [(behindP P m).d, (behindS P S n).d]) | _ => False
def sp__law_leanest_right : Sp := fun vs H Q _ => match vs with | [v, u, w] => ∃ p P S, PL.ok P ∧ SY.ok S P.bs.length ∧ Rep p H P.d v ∧ Rep p H S.d u ∧ leastStr (terms P S) = none ∧ Rep p H (rowD (leastMs (terms P S))) w ∧ ∀ H', Same H H' → Q (.bl true) H' | _ => False
def sp__law_right : Sp := fun vs H Q _ => match vs with | [.ref p, v, u, c] => Pen p H ∧ ∃ P S, PL.ok P ∧ SY.ok S P.bs.length ∧ Rep p H P.d v ∧ Rep p H S.d u ∧ Rep p H (capsD P S) c ∧ ∀ H', Ev p H H' → Pen p H' → Q (.bl true) H' | _ => False
theorem cut_drop' {xs : List V} {n : Nat} : cutV xs (some ((n : Nat) : Int)) none = xs.drop n := by
 have eN : HT.sIx xs.length xs.length none = xs.length := rfl
 unfold cutV
 rw [HT.sIx_nat, eN]
 by_cases h : n ≤ xs.length
 ·rw [Nat.min_eq_left h]
  exact List.take_of_length_le (by rw [List.length_drop]; omega)
 ·rw [Nat.min_eq_right (by omega)]
  rw [List.drop_of_length_le (Nat.le_refl _), List.drop_of_length_le (by omega)]; simp
def fltB (n : Nat) (fs : List FT) : List FT := (fs.filter fun x => decide ((n : Int) < x.l)).map (behindF n)
theorem fltB_len {n : Nat} {fs : List FT} : (fltB n fs).length ≤ fs.length := by unfold fltB; rw [List.length_map]; exact List.length_filter_le _ _
theorem fltB_snoc {n : Nat} {fs : List FT} {x : FT} : fltB n (fs ++ [x]) = fltB n fs ++ (if (n : Int) < x.l then [behindF n x] else []) := by
 unfold fltB
 rw [List.filter_append, List.map_append]
 by_cases c : (n : Int) < x.l
 ·rw [if_pos c, List.filter_cons_of_pos (by exact decide_eq_true c)]; rfl
 ·rw [if_neg c, List.filter_cons_of_neg (by rw [decide_eq_false c]; decide)]; rfl
theorem leastMs_len {T : TM} : (leastMs T).length = T.ds.length := by unfold leastMs; simp
theorem leastMs_at {T : TM} {k : Nat} (h : k < T.ds.length) : ((leastMs T).map V.int)[k]? = some (.int (lz T (k + 1))) := by
 unfold leastMs
 rw [List.getElem?_map, List.getElem?_map, List.getElem?_range h]; rfl
theorem _root_.L2.walk_zipLe {P : Program} {w : World} {K : PySem.W.Frag} {S1 S2 : SeqK P w K} {a b : Addr} {xs ys : List V} {cap : List (Option Nat)} {g : TG} {tt : TT} {te : TE} {σ : L2.St} {Q : List V → Hp → Prop} {H : Hp} (Pv : Nat → List V → Hp → Prop) (hn : xs.length ≤ 100000) (he : xs.length ≤ ys.length) (h0 : Pv 0 [] H) (hz : ∀ i ys H, Pv i ys H → ys.length ≤ i)
  (hl : ∀ i zs H, Pv i zs H → S1.Sq H a xs ∧ S2.Sq H b ys)
  (hs : ∀ i x y zs H T, xs[i]? = some x → ys[i]? = some y → Pv i zs H → H T = none → g (.ref T) (capOf cap σ) (upd H T (.tup [x, y])) fun σ2 H2 => Keep (capOf cap σ) σ2 ∧ tt σ2 H2 fun b H3 => br b (te σ2 H3 fun y H4 => Pv (i + 1) (zs ++ [y]) H4) (Pv (i + 1) zs H3))
  (hd : ∀ zs H, Pv xs.length zs H → Q zs H) : Walk (Itz S1 S2 a b) cap g tt te σ Q H :=
 walk_n xs.length Pv hn h0 hz (fun i zs H hi p => by
  obtain ⟨q1, q2⟩ := hl i zs H p
  have hy : i < ys.length := by omega
  refine ⟨⟨xs, ys, xs[i], ys[i], q1, q2, by simp [hi], by simp [hy]⟩, fun v H' ⟨T, e, n, y⟩ => ?_⟩
  subst e
  rw [y xs ys xs[i] ys[i] q1 q2 (by simp [hi]) (by simp [hy])]
  exact hs i xs[i] ys[i] zs H T (by simp [hi]) (by simp [hy]) p n)
  fun zs H p => ⟨⟨xs, ys, (hl _ zs H p).1, (hl _ zs H p).2, rfl⟩, hd zs H p⟩
theorem lay_ints : ∀ {r : List Int}, PyData.canLayAll0 (r.map .int) = true ∧ PyData.depthAll (r.map .int) = 0
 | [] => ⟨rfl, rfl⟩
 | a :: r => by
  obtain ⟨h1, h2⟩ := lay_ints (r := r)
  rw [List.map_cons]
  unfold PyData.canLayAll0 PyData.depthAll
  rw [h1, h2]
  exact ⟨rfl, rfl⟩
theorem eqv_ints : ∀ {a b : List Int}, PyData.eqvAll (a.map .int) (b.map .int) = decide (a = b)
 | [], [] => rfl
 | [], _ :: _ => rfl
 | _ :: _, [] => rfl
 | x :: a, y :: b => by
  rw [List.map_cons, List.map_cons]
  unfold PyData.eqvAll
  rw [eqv_ints (a := a) (b := b)]
  unfold PyData.eqv
  rw [Bool.eq_iff_iff]
  simp
theorem lay_row {r : List Int} : (rowD r).canLay0 = true ∧ (rowD r).hasDict = false ∧ (rowD r).depth ≤ 20 := by
 obtain ⟨h1, h2⟩ := lay_ints (r := r)
 have e : (rowD r).canLay0 = true := by unfold rowD PyData.canLay0; exact h1
 refine ⟨e, PyData.hasDict_of_canLay _ e, ?_⟩
 unfold rowD PyData.depth
 omega
theorem eqv_row {r : List Int} : PyData.eqv (rowD r) (rowD r) = true := by unfold rowD PyData.eqv; rw [eqv_ints]; exact decide_eq_true rfl
theorem mains_walk {K : PySem.W.Frag} {p R : Addr} {P : PL} {S : SY} {F : List (List Int)} {k : Nat} {xs : List V} {σ : L2.St} {Q : List V → Hp → Prop} {H2 : Hp} (kR : H2 R = some (.lst xs)) (rx : Reps p H2 (rowsD P S F k) xs) (kle : k ≤ 8)
  (q : ∀ H3, Same H2 H3 → Q ((mainsTo P S F k).map V.int) H3) : Walk (Itl K R) [none] (gName 0) tAlways (tOp (rIxT K) (cVar 0) (tC (V.int 3))) σ Q H2 := by
 have lx := rx.len
 rw [rowsD_len] at lx
 refine walk_lst (xs := xs) (fun i ys H' => Same H2 H' ∧ ys = (mainsTo P S F i).map V.int) (by omega) ⟨Same.refl _, rfl⟩ (fun i ys H' h => by rw [h.2, List.length_map]; unfold mainsTo; simp) (fun i ys H' _ h => SqL.of (h.1 _ _ kR)) (fun i x ys H' hx h => ?_) fun ys H3 h => ?_
 ·have rx' : Reps p H2 ((List.range k).map (row4 P S F)) xs := rx
  obtain ⟨j, hj, rj⟩ := Reps.mapGot rx' hx
  have ej : j = i := by
   have hi := (List.getElem?_eq_some_iff.mp hj).1
   rw [List.length_range] at hi
   rw [List.getElem?_range hi] at hj
   cases hj; rfl
  subst ej
  obtain ⟨s3, rfl⟩ := h
  obtain ⟨A', zs, rfl, hA, rs⟩ := Rep.shape rj
  obtain ⟨y1, y2, y3, y4, rfl, r1, r2, r3, r4⟩ := Reps.four rs
  unfold Rep at r1 r2 r3 r4
  subst r1 r2 r3 r4
  refine ⟨trivial, fun _ => ⟨A', _, 3, _, rfl, rfl, SqT.of (s3 _ _ hA), rfl, s3, ?_⟩, fun c => (by cases c)⟩
  unfold mainsTo
  rw [List.range_succ, List.map_append, List.map_append]; rfl
 ·obtain ⟨s3, rfl⟩ := h
  rw [← lx]
  exact q _ s3
theorem mainsTo_len {P : PL} {S : SY} {F : List (List Int)} {k : Nat} : (mainsTo P S F k).length = k := by unfold mainsTo; simp
theorem mainsTo_at {P : PL} {S : SY} {F : List (List Int)} {k i : Nat} {x : V} (h : ((mainsTo P S F k).map V.int)[i]? = some x) : i < k ∧ x = .int (mainAt P S F (i + 1)) := by
 have hi := (List.getElem?_eq_some_iff.mp h).1
 rw [List.length_map, mainsTo_len] at hi
 unfold mainsTo at h
 rw [List.getElem?_map, List.getElem?_map, List.getElem?_range hi] at h
 cases h
 exact ⟨hi, rfl⟩
theorem least_gotL {T : TM} {q : Nat × Nat} (h : leastStr T = some q) : q.1 ≤ q.2 ∧ q.2 < T.ds.length ∧ tooMuch T q.1 q.2 = true := by
 unfold leastStr at h
 have m : q ∈ shownBy T := List.mem_of_head? h
 unfold shownBy at m
 obtain ⟨m1, m2⟩ := List.mem_filter.mp m
 obtain ⟨h1, h2⟩ := strAll_in (Nat.le_refl _) q m1
 exact ⟨h1, h2, m2⟩
section
variable {P : Program} {w : World} {K : PySem.W.Frag} {mg : Str → Option Value} {base : Heap}
theorem sc__law_behind : FnScope ["_law_plant_here", "_law_story_here", "_law_hour", "_law_main", "_law_boilers", "_law_engines", "_law_low", "_law_high", "_law_start", "_law_drawn", "_law_faults", "_law_one", "_law_word", "_law_begin", "_law_end"] ["_law_plant_here", "_law_story_here", "_law_hour", "_law_main"] (defScope s__law_behind) := ⟨rfl, rfl, rfl, by decide +kernel, rfl, by decide +kernel, by decide +kernel⟩
theorem ok__law_behind (F : Df K mg "_law_behind" s__law_behind ["_law_plant_here", "_law_story_here", "_law_hour", "_law_main"]) (T : Tx mg) (D_draws_of : Fn P w K mg base 9 "draws_of" ["plant", "story"] sp_draws_of) : Fn P w K mg base 10 "_law_behind" ["_law_plant_here", "_law_story_here", "_law_hour", "_law_main"] sp__law_behind := by
 refine F.fn sc__law_behind (fun vs H Q E h => ?_) (fun f cdv A outer s H vs Q E hr h => ?_)
 ·unfold sp__law_behind at h; split at h; rfl; exact h.elim
 refine ⟨_, (@pss_cons _ _ _ _ _ (@ps_asg _ _ _ _ _ _ (@cx _ 0 _ _ (by rfl)) (@pgT _ K _ _ _ (3) _ (@pgs_cons _ _ _ _ _ (@pgx _ _ _ 4 sc__law_behind.nd (by rfl)) (@pgs_cons _ _ _ _ _ (@pgx _ _ _ 5 sc__law_behind.nd (by rfl)) (@pgs_cons _ _ _ _ _ (@pgT _ K _ _ _ (3) _ (@pgs_cons _ _ _ _ _ (@pgx _ _ _ 6 sc__law_behind.nd (by rfl)) (@pgs_cons _ _ _ _ _ (@pgx _ _ _ 7 sc__law_behind.nd (by rfl)) (@pgs_cons _ _ _ _ _ (@pgx _ _ _ 8 sc__law_behind.nd (by rfl)) (@pgs_nil _) (by rfl)) (by rfl)) (by rfl)) (by rfl) (by rfl) (by rfl) (by rfl)) (@pgs_nil _) (by rfl)) (by rfl)) (by rfl)) (by rfl) (by rfl) (by rfl) (by rfl)) (by rfl) (by rfl) (by rfl)) (@pss_cons _ _ _ _ _ (@ps_set _ _ (9) _ _ _ _ sc__law_behind.nd rfl (loc_of (by rfl)) (@pe_slice _ _ _ _ _ _ _ _ _ _ (@s_tup _) (@c_call _ _ _ _ _ _ _ _ _ _ D_draws_of (hr.mono (by decide)) rfl (@pa2 _ _ _ _ _ (@cx _ 0 _ _ (by rfl)) (@cx _ 1 _ _ (by rfl)) (by rfl)) (by decide) (by rfl) (by rfl)) (@po_some _ _ _ (@pe_op _ _ _ _ _ _ _ _ (@o_add _) (@cx _ 2 _ _ (by rfl)) (@pe_int _ _ _ _))) (@po_none _)) (by rfl) (fl_of (by rfl))) (@pss_cons _ _ _ _ _ (@ps_set _ _ (10) _ _ _ _ sc__law_behind.nd rfl (loc_of (by rfl)) (@c_lstG _ _ _ _ (@pa_nil _)) (by rfl) (fl_of (by rfl))) (@pss_cons _ _ _ _ _ (@ps_for _ _ _ _ _ _ _ _ PassesOwn.never rfl (@piT _ K _ _ _ (@pe_ix _ _ _ _ _ _ _ (@ixT _ K (by rfl)) (@cx _ 1 _ _ (by rfl)) (@pe_int _ _ _ _) (fun _ _ => rfl)) (by rfl)) (@pgT _ K _ _ _ (4) _ (@pgs_cons _ _ _ _ _ (@pgx _ _ _ 11 sc__law_behind.nd (by rfl)) (@pgs_cons _ _ _ _ _ (@pgx _ _ _ 12 sc__law_behind.nd (by rfl)) (@pgs_cons _ _ _ _ _ (@pgx _ _ _ 13 sc__law_behind.nd (by rfl)) (@pgs_cons _ _ _ _ _ (@pgx _ _ _ 14 sc__law_behind.nd (by rfl)) (@pgs_nil _) (by rfl)) (by rfl)) (by rfl)) (by rfl)) (by rfl) (by rfl) (by rfl) (by rfl)) (@pss_one _ _ _ (@c_if _ _ _ _ _ _ _ _ (@c_cmpT _ _ _ _ _ _ _ _ (@o_gt _) (@cx _ 14 _ _ (by rfl)) (@cx _ 2 _ _ (by rfl)) (nomark _)) (@pss_one _ _ _ (@ps_expr _ _ _ _ (@pe_bm _ _ _ _ _ _ _ _ _ _ _ _ PySem.F.plainAttrs_list PySem.F.slot_list_append PySem.F.type_list_append mt_append (@cx _ 10 _ _ (by rfl)) (@pa1 _ _ _ (@c_tupG _ _ _ _ _ (@pa4 _ _ _ _ _ _ _ _ _ (@cx _ 11 _ _ (by rfl)) (@cx _ 12 _ _ (by rfl)) (@pe_callB _ _ _ _ _ _ _ _ _ (@call_max2 _ rfl) rfl T.b_max boot_max (@pa2 _ _ _ _ _ (@pe_int _ _ _ _) (@pe_op _ _ _ _ _ _ _ _ (@o_sub _) (@pe_op _ _ _ _ _ _ _ _ (@o_sub _) (@cx _ 13 _ _ (by rfl)) (@cx _ 2 _ _ (by rfl))) (@pe_int _ _ _ _)) (by rfl)) (by decide) (by decide) (by rfl) (by rfl)) (@pe_op _ _ _ _ _ _ _ _ (@o_sub _) (@pe_op _ _ _ _ _ _ _ _ (@o_sub _) (@cx _ 14 _ _ (by rfl)) (@cx _ 2 _ _ (by rfl))) (@pe_int _ _ _ _)) (by rfl))) (by rfl)) (by rfl) (by rfl) (by rfl) (by rfl) (by rfl)) (by rfl))) (@pss_nil _))) (by intro _; rfl)) (@pss_one _ _ _ (@ps_ret _ _ _ _ (@c_tupG _ _ _ _ _ (@pa2 _ _ _ _ _ (@c_tupG _ _ _ _ _ (@pa3 _ _ _ _ _ _ _ (@cx _ 4 _ _ (by rfl)) (@c_tupG _ _ _ _ _ (@pa_nil _)) (@c_tupG _ _ _ _ _ (@pa3 _ _ _ _ _ _ _ (@cx _ 6 _ _ (by rfl)) (@cx _ 7 _ _ (by rfl)) (@cx _ 3 _ _ (by rfl)) (by rfl))) (by rfl))) (@c_tupG _ _ _ _ _ (@pa2 _ _ _ _ _ (@cx _ 9 _ _ (by rfl)) (@pe_callTy _ _ _ _ _ _ _ _ _ (@tupOf _ K (by rfl)) rfl T.b_tuple boot_tuple' (@pa1 _ _ _ (@cx _ 10 _ _ (by rfl)) (by rfl)) (by decide) (by decide) (by rfl) (by rfl)) (by rfl))) (by rfl))))))))), ?_⟩
 unfold sp__law_behind at h
 split at h
 ·rename_i v u h0 m
  obtain ⟨p, P, S, n, rfl, ok, so, r, ru, q⟩ := h
  obtain ⟨A', BA, EA, MA, xb, xe, rfl, hA, hBA, rb, hEA, re, hMA⟩ := Rep.plant r
  obtain ⟨SA, SB, SE, xf, rfl, hSA, hSB, hSE, rf⟩ := Rep.story ru
  have f4 := so.f4
  have lxf := rf.len
  rw [List.length_map] at lxf
  refine ⟨A', _, rfl, SqT.of hA, rfl, _, _, rfl, _, _, rfl, _, _, rfl, MA, _, rfl, SqT.of hMA, rfl, _, _, rfl, _, _, rfl, _, _, rfl, rfl, rfl, ?_⟩
  refine ⟨p, P, S, ok, so, r, ru, fun t H1 s1 rt => ?_⟩
  obtain ⟨D, rfl, hD⟩ := Rep.ofRow (r := draws P S) rt
  refine ⟨(n : Int) + 1, rfl, D, _, rfl, hD, fun d1 H2 s2 k2 => ?_⟩
  rw [show (n : Int) + 1 = ((n + 1 : Nat) : Int) from by omega, cut_drop', ← List.map_drop] at k2
  refine fun L H3 s3 hL kL => ?_
  have s13 := s1.trans (s2.trans s3)
  refine ⟨SA, _, 1, _, rfl, rfl, SqT.of (s13 _ _ hSA), rfl, SE, rfl, ⟨_, SqT.of (s13 _ _ hSE)⟩, for_tup (xs := xf) (fun i σ H' => (∃ x11 x12 x13 x14, σ = [some (.ref A'), some (.ref SA), some (.int n), some (.int m), some (.ref BA), some (.ref EA), some (.int P.lo), some (.int P.hi), some (.int P.st), some (.ref d1), some (.ref L), x11, x12, x13, x14]) ∧ Ev L H3 H' ∧ ∃ ys, H' L = some (.lst ys) ∧ Reps p H' ((fltB n (S.fs.take i)).map FT.d) ys) ⟨⟨_, _, _, _, rfl⟩, Ev.refl, [], kL, .nil⟩ (fun i σ H' _ h => SqT.of (h.2.1.tup (s13 _ _ hSE))) (fun i x σ H' hx h => ?_) fun σ H' h => ?_⟩
  ·obtain ⟨⟨x11, x12, x13, x14, rfl⟩, ev, ys, kl, ry⟩ := h
   obtain ⟨x0, hx0, rx0⟩ := Reps.mapGot rf hx
   have hi : i < S.fs.length := (List.getElem?_eq_some_iff.mp hx0).1
   obtain ⟨FA, zs, rfl, hF, rs⟩ := Rep.shape rx0
   obtain ⟨y1, y2, y3, y4, rfl, r1, r2, r3, r4⟩ := Reps.four rs
   unfold Rep at r1 r2 r3 r4
   subst r1 r2 r3 r4
   refine ⟨FA, _, rfl, SqT.of (ev.tup (s13 _ _ hF)), rfl, _, _, rfl, _, _, rfl, _, _, rfl, _, _, rfl, rfl, ⟨fun c => ?_, fun c => ?_⟩⟩
   ·have c' : (n : Int) < x0.l := of_decide_eq_true c
    refine ⟨.inl ⟨rfl, _, SqL.of kl⟩, _, _, rfl, fun T0 H4 s4 kT => ?_⟩
    have kl4 := s4 _ _ kl
    have lys : ys.length ≤ 4 := by
     have := ry.len
     rw [List.length_map] at this
     have := fltB_len (n := n) (fs := S.fs.take i)
     rw [List.length_take] at this
     omega
    refine ⟨L, _, _, rfl, rfl, kl4, small63 (by omega), ⟨_, _, _, _, rfl⟩, (ev.trans (Ev.same s4)).trans (Ev.pen kl4), _, upd_same, ?_⟩
    have tv := TEv.upd (zs := ys ++ [.ref T0]) kl4
    rw [take_next hx0, fltB_snoc, if_pos c', List.map_append]
    refine Reps.snoc (Reps.tev ((Ev.same (p := p) s4).tev.trans tv) _ _ (noMuts_all fun d hd => ?_) ry) (Rep.tev (p := p) tv _ _ rfl (Rep.tup kT ?_))
    ·obtain ⟨k, _, rfl⟩ := List.mem_map.mp hd
     rfl
    ·exact .cons Rep.int (.cons (by unfold Rep; rfl) (.cons Rep.int (.cons Rep.int .nil)))
   ·have c' : ¬ (n : Int) < x0.l := of_decide_eq_false c
    refine ⟨⟨_, _, _, _, rfl⟩, ev, ys, kl, ?_⟩
    rw [take_next hx0, fltB_snoc, if_neg c', List.append_nil]
    exact ry
  ·obtain ⟨⟨x11, x12, x13, x14, rfl⟩, ev, ys, kl, ry⟩ := h
   rw [← lxf, List.take_length] at ry
   have sH' : Same H2 H' := Same.evOwn s3 hL ev
   have s2' := s1.trans (s2.trans sH')
   refine fun t1 G1 g1 e1 => fun t2 G2 g2 e2 => fun t3 G3 g3 e3 => ⟨L, _, rfl, .inl ⟨SqL.of ((g1.trans (g2.trans g3)) _ _ kl), fun l4 hl4 => fun t5 G5 g5 e5 => fun t6 G6 g6 e6 => ?_⟩⟩
   have n4 := Same.new (o := .tup ys) hl4
   have a34 : Same G3 G6 := n4.trans (g5.trans g6)
   have a24 := g3.trans a34
   have a14 := g2.trans a24
   have a04 := g1.trans a14
   refine q _ _ (s2'.trans a04) ?_
   refine Rep.tup e6 (.cons (Rep.tup (a34 _ _ e3) (.cons (Rep.tup ((s2'.trans a04) _ _ hBA) (Reps.ev (Ev.same (s2'.trans a04)) _ _ rb)) (.cons (Rep.tup (a14 _ _ e1) .nil) (.cons (Rep.tup (a24 _ _ e2) (.cons Rep.int (.cons Rep.int (.cons Rep.int .nil)))) .nil)))) (.cons (Rep.tup (g6 _ _ e5) (.cons (Rep.row ((sH'.trans a04) _ _ k2)) (.cons (Rep.tup ((g5.trans g6) _ _ upd_same) (Reps.ev (Ev.same a04) _ _ ry)) .nil))) .nil))
 ·exact h.elim
theorem sc__law_leanest_right : FnScope ["_law_plant_here", "_law_story_here", "_law_least", "_law_low", "_law_high", "_law_start", "_law_hour", "_law_later", "_law_rest", "_law_under"] ["_law_plant_here", "_law_story_here", "_law_least"] (defScope s__law_leanest_right) := ⟨rfl, rfl, rfl, by decide +kernel, rfl, by decide +kernel, by decide +kernel⟩
theorem ok__law_leanest_right (F : Df K mg "_law_leanest_right" s__law_leanest_right ["_law_plant_here", "_law_story_here", "_law_least"]) (T : Tx mg) (D__law_behind : Fn P w K mg base 10 "_law_behind" ["_law_plant_here", "_law_story_here", "_law_hour", "_law_main"] sp__law_behind) (D_least_coal : Fn P w K mg base 11 "least_coal" ["plant", "story"] sp_least_coal) : Fn P w K mg base 12 "_law_leanest_right" ["_law_plant_here", "_law_story_here", "_law_least"] sp__law_leanest_right := by
 refine F.fn sc__law_leanest_right (fun vs H Q E h => ?_) (fun f cdv A outer s H vs Q E hr h => ?_)
 ·unfold sp__law_leanest_right at h; split at h; rfl; exact h.elim
 refine ⟨_, (@pss_cons _ _ _ _ _ (@ps_asg _ _ _ _ _ _ (@pe_ix _ _ _ _ _ _ _ (@ixT _ K (by rfl)) (@cx _ 0 _ _ (by rfl)) (@pe_int _ _ _ _) (fun _ _ => rfl)) (@pgT _ K _ _ _ (3) _ (@pgs_cons _ _ _ _ _ (@pgx _ _ _ 3 sc__law_leanest_right.nd (by rfl)) (@pgs_cons _ _ _ _ _ (@pgx _ _ _ 4 sc__law_leanest_right.nd (by rfl)) (@pgs_cons _ _ _ _ _ (@pgx _ _ _ 5 sc__law_leanest_right.nd (by rfl)) (@pgs_nil _) (by rfl)) (by rfl)) (by rfl)) (by rfl) (by rfl) (by rfl) (by rfl)) (by rfl) (by rfl) (by rfl)) (@pss_cons _ _ _ _ _ (@ps_for _ _ _ _ _ _ _ _ PassesOwn.never rfl (@pi_range1 _ _ _ _ _ _ rfl T.b_range (@pa1 _ _ _ (@pe_op _ _ _ _ _ _ _ _ (@o_sub _) (@pe_callB _ _ _ _ _ _ _ _ _ (@lenS _ K (by rfl)) rfl T.b_len PySem.boot_len (@pa1 _ _ _ (@cx _ 2 _ _ (by rfl)) (by rfl)) (by decide) (by decide) (by rfl) (by rfl)) (@pe_int _ _ _ _)) (by rfl)) (by rfl)) (@pgx _ _ _ 6 sc__law_leanest_right.nd (by rfl)) (@pss_cons _ _ _ _ _ (@ps_asg _ _ _ _ _ _ (@c_call _ _ _ _ _ _ _ _ _ _ D__law_behind (hr.mono (by decide)) rfl (@pa4 _ _ _ _ _ _ _ _ _ (@cx _ 0 _ _ (by rfl)) (@cx _ 1 _ _ (by rfl)) (@cx _ 6 _ _ (by rfl)) (@pe_ix _ _ _ _ _ _ _ (@ixT _ K (by rfl)) (@cx _ 2 _ _ (by rfl)) (@cx _ 6 _ _ (by rfl)) (fun _ _ => rfl)) (by rfl)) (by decide) (by rfl) (by rfl)) (@pgT _ K _ _ _ (2) _ (@pgs_cons _ _ _ _ _ (@pgx _ _ _ 7 sc__law_leanest_right.nd (by rfl)) (@pgs_cons _ _ _ _ _ (@pgx _ _ _ 8 sc__law_leanest_right.nd (by rfl)) (@pgs_nil _) (by rfl)) (by rfl)) (by rfl) (by rfl) (by rfl) (by rfl)) (by rfl) (by rfl) (by rfl)) (@pss_one _ _ _ (@c_if _ _ _ _ _ _ _ _ (@c_cmpT _ _ _ _ _ _ _ _ (@o_lt _) (@pe_callB _ _ _ _ _ _ _ _ _ (call_maxT rfl) rfl T.b_max boot_max (@pa1 _ _ _ (@pe_ix _ _ _ _ _ _ _ (@ixT _ K (by rfl)) (@cx _ 8 _ _ (by rfl)) (@pe_int _ _ _ _) (fun _ _ => rfl)) (by rfl)) (by decide) (by decide) (by rfl) (by rfl)) (@pe_int _ _ _ _) (nomark _)) (@pss_cons _ _ _ _ _ (@c_if _ _ _ _ _ _ _ _ (@c_cmpT _ _ _ _ _ _ _ _ (@op_isN _) (@c_call _ _ _ _ _ _ _ _ _ _ D_least_coal (hr.mono (by decide)) rfl (@pa2 _ _ _ _ _ (@cx _ 7 _ _ (by rfl)) (@cx _ 8 _ _ (by rfl)) (by rfl)) (by decide) (by rfl) (by rfl)) (@pe_non _ _ _) (nomark _)) (@pss_one _ _ _ (@ps_ret _ _ _ _ (@pe_bl _ _ _ _))) (@pss_nil _)) (@pss_cons _ _ _ _ _ (@ps_set _ _ (9) _ _ _ _ sc__law_leanest_right.nd rfl (loc_of (by rfl)) (@pe_op _ _ _ _ _ _ _ _ (@o_catT _) (@pe_slice _ _ _ _ _ _ _ _ _ _ (@s_tup _) (@cx _ 7 _ _ (by rfl)) (@po_none _) (@po_some _ _ _ (@pe_int _ _ _ _))) (@c_tupG _ _ _ _ _ (@pa1 _ _ _ (@c_tupG _ _ _ _ _ (@pa3 _ _ _ _ _ _ _ (@cx _ 3 _ _ (by rfl)) (@cx _ 4 _ _ (by rfl)) (@pe_callB _ _ _ _ _ _ _ _ _ (@call_max2 _ rfl) rfl T.b_max boot_max (@pa2 _ _ _ _ _ (@cx _ 3 _ _ (by rfl)) (@pe_op _ _ _ _ _ _ _ _ (@o_sub _) (@pe_ix _ _ _ _ _ _ _ (@ixT _ K (by rfl)) (@cx _ 2 _ _ (by rfl)) (@cx _ 6 _ _ (by rfl)) (fun _ _ => rfl)) (@pe_int _ _ _ _)) (by rfl)) (by decide) (by decide) (by rfl) (by rfl)) (by rfl))) (by rfl)))) (by rfl) (fl_of (by rfl))) (@pss_one _ _ _ (@c_if _ _ _ _ _ _ _ _ (@PW.pt _ _ _ (@c_and _ _ _ _ _ _ _ (@c_cmpT _ _ _ _ _ _ _ _ (@o_gt _) (@pe_ix _ _ _ _ _ _ _ (@ixT _ K (by rfl)) (@cx _ 2 _ _ (by rfl)) (@cx _ 6 _ _ (by rfl)) (fun _ _ => rfl)) (@cx _ 3 _ _ (by rfl)) (nomark _)) (@pw_and1 _ _ _ _ (@c_cmpT _ _ _ _ _ _ _ _ (@op_notN _) (@c_call _ _ _ _ _ _ _ _ _ _ D_least_coal (hr.mono (by decide)) rfl (@pa2 _ _ _ _ _ (@cx _ 9 _ _ (by rfl)) (@cx _ 8 _ _ (by rfl)) (by rfl)) (by decide) (by rfl) (by rfl)) (@pe_non _ _ _) (nomark _))))) (@pss_one _ _ _ (@ps_ret _ _ _ _ (@pe_bl _ _ _ _))) (@pss_nil _))))) (@pss_nil _)))) (by intro _; rfl)) (@pss_one _ _ _ (@ps_ret _ _ _ _ (@pe_bl _ _ _ _))))), ?_⟩
 unfold sp__law_leanest_right at h
 split at h
 ·rename_i v u w
  obtain ⟨p, P, S, ok, so, r, ru, no, rw0, q⟩ := h
  obtain ⟨A', BA, EA, MA, xb, xe, rfl, hA, hBA, rb, hEA, re, hMA⟩ := Rep.plant r
  obtain ⟨W, rfl, hW⟩ := Rep.ofRow rw0
  have lds : (terms P S).ds.length = S.ex.length := draws_len
  have lms : ((leastMs (terms P S)).map V.int).length = S.ex.length := by rw [List.length_map, leastMs_len, lds]
  have x1 := so.x1
  have x8 := so.x8
  refine ⟨A', _, 2, .ref MA, rfl, rfl, SqT.of hA, rfl, MA, _, rfl, SqT.of hMA, rfl, _, _, rfl, _, _, rfl, _, _, rfl, rfl, ?_⟩
  refine ⟨W, _, rfl, .inr (SqT.of hW), ?_⟩
  rw [lms]
  refine ⟨(S.ex.length : Int) - 1, rfl, by omega, by omega, for_range (n := ((S.ex.length : Int) - 1).toNat) (fun i σ H' => (∃ x6 x7 x8 x9, σ = [some (.ref A'), some u, some (.ref W), some (.int P.lo), some (.int P.hi), some (.int P.st), x6, x7, x8, x9]) ∧ Same H H') ⟨⟨_, _, _, _, rfl⟩, Same.refl _⟩ (fun i σ H' hi h => ?_) fun σ H' h => ?_⟩
  ·obtain ⟨⟨x6, x7, x8', x9, rfl⟩, sm⟩ := h
   have hi2 : i + 1 < S.ex.length := by omega
   rw [Int.zero_add]
   have hat : atI ((leastMs (terms P S)).map V.int) (i : Int) = some (.int (lz (terms P S) (i + 1))) := atI_nat (leastMs_at (by omega))
   have m1 : P.lo ≤ lz (terms P S) (i + 1) := lz_lo
   have m2 : lz (terms P S) (i + 1) ≤ P.hi := lz_hi ok so no (by omega)
   refine ⟨W, _, (i : Int), _, rfl, rfl, SqT.of (sm _ _ hW), hat, p, P, S, i, rfl, ok, so, Rep.ev (Ev.same sm) _ _ r, Rep.ev (Ev.same sm) _ _ ru, fun t H1 s1 rt => ?_⟩
   generalize em : lz (terms P S) (i + 1) = m at hat m1 m2 rt
   have hm : m = lz (terms P S) (i + 1) := em.symm
   have sm1 := sm.trans s1
   obtain ⟨B1, zs, rfl, hB1, rs⟩ := Rep.shape rt
   obtain ⟨y1, y2, rfl, r1, r2⟩ := Reps.two rs
   obtain ⟨A2, BA2, EA2, MA2, xb2, xe2, rfl, hA2, hBA2, rb2, hEA2, re2, hMA2⟩ := Rep.plant r1
   obtain ⟨SA, SB, SE, xf, rfl, hSA, hSB, hSE, rf⟩ := Rep.story r2
   have lb : (behindS P S i).ex.length = S.ex.length - (i + 1) := behind_len
   refine ⟨B1, _, rfl, SqT.of hB1, rfl, _, _, rfl, _, _, rfl, rfl, ?_⟩
   refine ⟨SA, _, 0, _, rfl, rfl, SqT.of hSA, rfl, SB, _, rfl, hSB, fun e => (by have e2 := congrArg List.length e; rw [lb] at e2; simp at e2; omega), fun M hM hall => ⟨fun c => ?_, fun c => ⟨⟨_, _, _, _, rfl⟩, sm1⟩⟩⟩
   have c' : M < 21 := of_decide_eq_true c
   have d20 : ∀ x ∈ (draws P S).drop (i + 1), x ≤ 20 := fun x hx => by have := hall x hx; omega
   have okb := behindP_ok ok m1 m2
   have sob : (behindS P S i).ok (behindP P m).bs.length := behindS_ok ok so hi2 d20
   have hz : ∀ j, j ≤ S.ex.length → i + 1 < j → lz (terms P S) j ≤ P.hi := fun j hj _ => lz_hi ok so no hj
   have k1 := (behind_keeps ok so hi2 d20 m1 m2 hz).mpr (by omega)
   refine ⟨p, _, _, okb, sob, r1, r2, fun z => absurd k1 z, fun _ f0 ps0 H2 _ s2 => ⟨rfl, ⟨fun z => (by simp at z), fun _ => ?_⟩⟩⟩
   have sm2 := sm1.trans s2
   have cu2 : cutV [V.ref BA2, V.ref EA2, V.ref MA2] none (some 2) = [.ref BA2, .ref EA2] := cut_take (i := 2) (by show 2 ≤ 3; decide)
   refine ⟨2, rfl, A2, _, rfl, s2 _ _ hA2, fun t3 H3 s3 k3 => ⟨W, _, (i : Int), _, rfl, rfl, SqT.of ((sm2.trans s3) _ _ hW), hat, _, _, rfl, fun t4 H4 s4 k4 => fun t5 H5 s5 k5 => ⟨t3, t5, _, _, rfl, rfl, (s4.trans s5) _ _ k3, k5, by rw [cu2]; show 2 + 1 ≤ 1000; decide, fun t6 H6 s6 k6 => ?_⟩⟩⟩
   have s26 := s2.trans (s3.trans (s4.trans (s5.trans s6)))
   have sm6 := sm1.trans s26
   rw [cu2] at k6
   have hmx : (if m - 1 > P.lo then m - 1 else P.lo) = mx P.lo (m - 1) := rfl
   rw [hmx] at k4
   refine ⟨W, _, (i : Int), _, rfl, rfl, SqT.of (sm6 _ _ hW), hat, ⟨fun d => ?_, fun d => ⟨fun z => (by cases z), fun _ => ⟨⟨_, _, _, _, rfl⟩, sm6⟩⟩⟩⟩
   have d' : P.lo < m := of_decide_eq_true d
   have em1 : mx P.lo (m - 1) = m - 1 := by unfold mx; split <;> omega
   rw [em1] at k4
   have o1 : P.lo ≤ m - 1 := by omega
   have o2 : m - 1 ≤ P.hi := by omega
   have kk := mt (behind_keeps ok so hi2 d20 o1 o2 hz).mp (by omega)
   have sob' : (behindS P S i).ok (behindP P (m - 1)).bs.length := sob
   have r6 : Rep p H6 (behindP P (m - 1)).d (.ref t6) := Rep.tup k6 (.cons (Rep.tup (s26 _ _ hBA2) (Reps.ev (Ev.same s26) _ _ rb2)) (.cons (Rep.tup (s26 _ _ hEA2) (Reps.ev (Ev.same s26) _ _ re2)) (.cons (Rep.tup ((s5.trans s6) _ _ k4) (.cons Rep.int (.cons Rep.int (.cons Rep.int .nil)))) .nil)))
   refine ⟨p, _, _, behindP_ok ok o1 o2, sob', r6, Rep.ev (Ev.same s26) _ _ r2, fun _ H7 s7 => ⟨rfl, ⟨fun z => (by simp at z), fun _ => ⟨⟨_, _, _, _, rfl⟩, sm6.trans s7⟩⟩⟩, fun z => absurd z kk⟩
  ·exact q _ h.2
 ·exact h.elim
theorem sc__law_right : FnScope ["_law_pen_here", "_law_plant_here", "_law_story_here", "_law_caps_here", "_law_full", "_law_short", "_law_most", "_law_fall", "_law_least", "_law_turn", "_law_firing_here", "_law_mains", "_law_low", "_law_high", "_law_start", "_law_more"] ["_law_pen_here", "_law_plant_here", "_law_story_here", "_law_caps_here"] (defScope s__law_right) := ⟨rfl, rfl, rfl, by decide +kernel, rfl, by decide +kernel, by decide +kernel⟩
theorem ok__law_right (F : Df K mg "_law_right" s__law_right ["_law_pen_here", "_law_plant_here", "_law_story_here", "_law_caps_here"]) (T : Tx mg) (D__law_firing : Fn P w K mg base 2 "_law_firing" ["_law_pen_here", "_law_caps_here"] sp__law_firing) (D__law_leanest_right : Fn P w K mg base 12 "_law_leanest_right" ["_law_plant_here", "_law_story_here", "_law_least"] sp__law_leanest_right) (D_course : Fn P w K mg base 13 "course" ["plant", "story", "firing"] sp_course) (D_falls_at : Fn P w K mg base 13 "falls_at" ["plant", "story", "firing"] sp_falls_at) (D_full_firing : Fn P w K mg base 10 "full_firing" ["plant", "story"] sp_full_firing) (D_fullest : Fn P w K mg base 14 "fullest" ["plant", "story"] sp_fullest) (D_keeps_up : Fn P w K mg base 14 "keeps_up" ["plant", "story", "firing"] sp_keeps_up) (D_leanest : Fn P w K mg base 11 "leanest" ["plant", "story"] sp_leanest) (D_stretch_holds : Fn P w K mg base 11 "stretch_holds" ["plant", "story", "thing"] sp_stretch_holds) (D_stretch_of : Fn P w K mg base 11 "stretch_of" ["plant", "story"] sp_stretch_of) : Fn P w K mg base 15 "_law_right" ["_law_pen_here", "_law_plant_here", "_law_story_here", "_law_caps_here"] sp__law_right := by
 refine F.fn sc__law_right (fun vs H Q E h => ?_) (fun f cdv A outer s H vs Q E hr h => ?_)
 ·unfold sp__law_right at h; split at h; rfl; exact h.elim
 refine ⟨_, (@pss_cons _ _ _ _ _ (@ps_par3 _ _ (4) (5) (6) _ _ _ _ _ _ _ _ _ _ _ _ _ _ rfl sc__law_right.nd rfl rfl rfl (by decide) (by decide) (by decide) rfl rfl rfl (@pa3 _ _ _ _ _ _ _ (@c_call _ _ _ _ _ _ _ _ _ _ D_full_firing (hr.mono (by decide)) rfl (@pa2 _ _ _ _ _ (@cx _ 1 _ _ (by rfl)) (@cx _ 2 _ _ (by rfl)) (by rfl)) (by decide) (by rfl) (by rfl)) (@c_call _ _ _ _ _ _ _ _ _ _ D_stretch_of (hr.mono (by decide)) rfl (@pa2 _ _ _ _ _ (@cx _ 1 _ _ (by rfl)) (@cx _ 2 _ _ (by rfl)) (by rfl)) (by decide) (by rfl) (by rfl)) (@c_call _ _ _ _ _ _ _ _ _ _ D_fullest (hr.mono (by decide)) rfl (@pa2 _ _ _ _ _ (@cx _ 1 _ _ (by rfl)) (@cx _ 2 _ _ (by rfl)) (by rfl)) (by decide) (by rfl) (by rfl)) (by rfl)) (by rfl) (by rfl)) (@pss_cons _ _ _ _ _ (@c_if _ _ _ _ _ _ _ _ (@c_cmpT _ _ _ _ _ _ _ _ (@o_neD _ _ hr) (@cx _ 6 _ _ (by rfl)) (@pe_callTy _ _ _ _ _ _ _ _ _ (@tupOf _ K (by rfl)) rfl T.b_tuple boot_tuple' (@pa1 _ _ _ (@pe_comp _ _ _ _ _ _ _ _ _ _ _ ["_law_row"] [none] rfl (@piL _ K _ _ _ (@c_call _ _ _ _ _ _ _ _ _ _ D_course (hr.mono (by decide)) rfl (@pa3 _ _ _ _ _ _ _ (@cx _ 1 _ _ (by rfl)) (@cx _ 2 _ _ (by rfl)) (@cx _ 4 _ _ (by rfl)) (by rfl)) (by decide) (by rfl) (by rfl)) (by rfl)) (BlockScope.of rfl) (fun _ _ _ _ => (@pgx _ _ _ 0 (nd_of (by rfl)) (by rfl))) (fun _ _ _ _ => (@pts_nil _)) (fun _ _ _ _ => (@pe_ix _ _ _ _ _ _ _ (@ixT _ K (by rfl)) (@cx _ 0 _ _ (by rfl)) (@pe_int _ _ _ _) (fun _ _ => rfl))) (by intro _; rfl)) (by rfl)) (by decide) (by decide) (by rfl) (by rfl)) (nomark _)) (@pss_one _ _ _ (@ps_ret _ _ _ _ (@pe_bl _ _ _ _))) (@pss_nil _)) (@pss_cons _ _ _ _ _ (@ps_par _ _ (7) (8) _ _ _ _ _ _ _ _ _ _ _ rfl sc__law_right.nd rfl rfl (by decide) rfl rfl (@pa2 _ _ _ _ _ (@c_call _ _ _ _ _ _ _ _ _ _ D_falls_at (hr.mono (by decide)) rfl (@pa3 _ _ _ _ _ _ _ (@cx _ 1 _ _ (by rfl)) (@cx _ 2 _ _ (by rfl)) (@cx _ 4 _ _ (by rfl)) (by rfl)) (by decide) (by rfl) (by rfl)) (@c_call _ _ _ _ _ _ _ _ _ _ D_leanest (hr.mono (by decide)) rfl (@pa2 _ _ _ _ _ (@cx _ 1 _ _ (by rfl)) (@cx _ 2 _ _ (by rfl)) (by rfl)) (by decide) (by rfl) (by rfl)) (by rfl)) (by rfl) (by rfl)) (@pss_cons _ _ _ _ _ (@c_if _ _ _ _ _ _ _ _ (@PW.pt _ _ _ (@c_or _ _ _ _ _ _ _ (@c_cmpT _ _ _ _ _ _ _ _ (@op_ne _) (@pe_cmpR _ _ _ _ _ _ _ _ (@op_isN _) (@cx _ 5 _ _ (by rfl)) (@pe_non _ _ _) (nomark _)) (@pe_cmpR _ _ _ _ _ _ _ _ (@op_isN _) (@cx _ 7 _ _ (by rfl)) (@pe_non _ _ _) (nomark _)) (nomark _)) (@pw_or1 _ _ _ _ (@c_cmpT _ _ _ _ _ _ _ _ (@op_ne _) (@pe_cmpR _ _ _ _ _ _ _ _ (@op_isN _) (@cx _ 8 _ _ (by rfl)) (@pe_non _ _ _) (nomark _)) (@pe_cmpR _ _ _ _ _ _ _ _ (@op_notN _) (@cx _ 7 _ _ (by rfl)) (@pe_non _ _ _) (nomark _)) (nomark _))))) (@pss_one _ _ _ (@ps_ret _ _ _ _ (@pe_bl _ _ _ _))) (@pss_nil _)) (@pss_cons _ _ _ _ _ (@c_if _ _ _ _ _ _ _ _ (@c_cmpT _ _ _ _ _ _ _ _ (@op_notN _) (@cx _ 5 _ _ (by rfl)) (@pe_non _ _ _) (nomark _)) (@pss_one _ _ _ (@ps_ret _ _ _ _ (@c_andV _ _ _ _ _ _ _ (@pe_cmpR _ _ _ _ _ _ _ _ (@op_isT _) (@c_call _ _ _ _ _ _ _ _ _ _ D_stretch_holds (hr.mono (by decide)) rfl (@pa3 _ _ _ _ _ _ _ (@cx _ 1 _ _ (by rfl)) (@cx _ 2 _ _ (by rfl)) (@cx _ 5 _ _ (by rfl)) (by rfl)) (by decide) (by rfl) (by rfl)) (@pe_bl _ _ _ _) (nomark _)) (@c_andV _ _ _ _ _ _ _ (@pe_cmpR _ _ _ _ _ _ _ _ (@o_ge _) (@pe_ix _ _ _ _ _ _ _ (@ixT _ K (by rfl)) (@cx _ 5 _ _ (by rfl)) (@pe_int _ _ _ _) (fun _ _ => rfl)) (@pe_int _ _ _ _) (nomark _)) (@pe_one _ _ _ _ _ (@pe_cmpR _ _ _ _ _ _ _ _ (@op_eq _) (@pe_callB _ _ _ _ _ _ _ _ _ (@lenS _ K (by rfl)) rfl T.b_len PySem.boot_len (@pa1 _ _ _ (@cx _ 6 _ _ (by rfl)) (by rfl)) (by decide) (by decide) (by rfl) (by rfl)) (@pe_ix _ _ _ _ _ _ _ (@ixT _ K (by rfl)) (@cx _ 7 _ _ (by rfl)) (@pe_int _ _ _ _) (fun _ _ => rfl)) (nomark _))))))) (@pss_nil _)) (@pss_cons _ _ _ _ _ (@ps_for _ _ _ _ _ _ _ _ PassesOwn.never rfl (@pi_range1 _ _ _ _ _ _ rfl T.b_range (@pa1 _ _ _ (@pe_int _ _ _ _) (by rfl)) (by rfl)) (@pgx _ _ _ 9 sc__law_right.nd (by rfl)) (@pss_cons _ _ _ _ _ (@ps_set _ _ (10) _ _ _ _ sc__law_right.nd rfl (loc_of (by rfl)) (@c_call _ _ _ _ _ _ _ _ _ _ D__law_firing (hr.mono (by decide)) rfl (@pa2 _ _ _ _ _ (@cx _ 0 _ _ (by rfl)) (@cx _ 3 _ _ (by rfl)) (by rfl)) (by decide) (by rfl) (by rfl)) (by rfl) (fl_of (by rfl))) (@pss_cons _ _ _ _ _ (@ps_setComp _ (11) _ _ _ _ _ _ _ _ _ _ _ _ _ ["_law_row"] [none] sc__law_right.nd rfl (loc_of (by rfl)) rfl (@piL _ K _ _ _ (@c_call _ _ _ _ _ _ _ _ _ _ D_course (hr.mono (by decide)) rfl (@pa3 _ _ _ _ _ _ _ (@cx _ 1 _ _ (by rfl)) (@cx _ 2 _ _ (by rfl)) (@cx _ 10 _ _ (by rfl)) (by rfl)) (by decide) (by rfl) (by rfl)) (by rfl)) (BlockScope.of rfl) (fun _ _ _ _ => (@pgx _ _ _ 0 (nd_of (by rfl)) (by rfl))) (fun _ _ _ _ => (@pts_nil _)) (fun _ _ _ _ => (@pe_ix _ _ _ _ _ _ _ (@ixT _ K (by rfl)) (@cx _ 0 _ _ (by rfl)) (@pe_int _ _ _ _) (fun _ _ => rfl))) (by rfl) (fl_of (by rfl)) (by intro _; rfl)) (@pss_cons _ _ _ _ _ (@c_if _ _ _ _ _ _ _ _ (@c_cmpT _ _ _ _ _ _ _ _ (@o_neL0 _ hr.units0) (@pe_comp _ _ _ _ _ _ _ _ _ _ _ ["_law_one", "_law_two"] [none, none] rfl (piZLT P w K rfl T.b_zip (@pa2 _ _ _ _ _ (@cx _ 11 _ _ (by rfl)) (@cx _ 6 _ _ (by rfl)) (by rfl))) (BlockScope.of rfl) (fun _ _ _ _ => (@pgT _ K _ _ _ (2) _ (@pgs_cons _ _ _ _ _ (@pgx _ _ _ 0 (nd_of (by rfl)) (by rfl)) (@pgs_cons _ _ _ _ _ (@pgx _ _ _ 1 (nd_of (by rfl)) (by rfl)) (@pgs_nil _) (by rfl)) (by rfl)) (by rfl) (by rfl) (by rfl) (by rfl))) (fun _ _ _ _ => (@pts_one _ _ _ (@c_cmpT _ _ _ _ _ _ _ _ (@o_gt _) (@cx _ 0 _ _ (by rfl)) (@cx _ 1 _ _ (by rfl)) (nomark _)))) (fun _ _ _ _ => (@pe_int _ _ _ _)) (by intro _; rfl)) (@c_lstG _ _ _ _ (@pa_nil _)) (nomark _)) (@pss_one _ _ _ (@ps_ret _ _ _ _ (@pe_bl _ _ _ _))) (@pss_nil _)) (@pss_one _ _ _ (@c_if _ _ _ _ _ _ _ _ (@PW.pt _ _ _ (@c_and _ _ _ _ _ _ _ (@c_val _ _ _ (@c_call _ _ _ _ _ _ _ _ _ _ D_keeps_up (hr.mono (by decide)) rfl (@pa3 _ _ _ _ _ _ _ (@cx _ 1 _ _ (by rfl)) (@cx _ 2 _ _ (by rfl)) (@cx _ 10 _ _ (by rfl)) (by rfl)) (by decide) (by rfl) (by rfl)) (by intro _; rfl)) (@pw_and1 _ _ _ _ (@c_cmpT _ _ _ _ _ _ _ _ (@o_neL0 _ hr.units0) (@pe_comp _ _ _ _ _ _ _ _ _ _ _ ["_law_one", "_law_two"] [none, none] rfl (piZLT P w K rfl T.b_zip (@pa2 _ _ _ _ _ (@cx _ 11 _ _ (by rfl)) (@cx _ 8 _ _ (by rfl)) (by rfl))) (BlockScope.of rfl) (fun _ _ _ _ => (@pgT _ K _ _ _ (2) _ (@pgs_cons _ _ _ _ _ (@pgx _ _ _ 0 (nd_of (by rfl)) (by rfl)) (@pgs_cons _ _ _ _ _ (@pgx _ _ _ 1 (nd_of (by rfl)) (by rfl)) (@pgs_nil _) (by rfl)) (by rfl)) (by rfl) (by rfl) (by rfl) (by rfl))) (fun _ _ _ _ => (@pts_one _ _ _ (@c_cmpT _ _ _ _ _ _ _ _ (@o_lt _) (@cx _ 0 _ _ (by rfl)) (@cx _ 1 _ _ (by rfl)) (nomark _)))) (fun _ _ _ _ => (@pe_int _ _ _ _)) (by intro _; rfl)) (@c_lstG _ _ _ _ (@pa_nil _)) (nomark _))))) (@pss_one _ _ _ (@ps_ret _ _ _ _ (@pe_bl _ _ _ _))) (@pss_nil _)))))) (by intro _; rfl)) (@pss_cons _ _ _ _ _ (@ps_asg _ _ _ _ _ _ (@pe_ix _ _ _ _ _ _ _ (@ixT _ K (by rfl)) (@cx _ 1 _ _ (by rfl)) (@pe_int _ _ _ _) (fun _ _ => rfl)) (@pgT _ K _ _ _ (3) _ (@pgs_cons _ _ _ _ _ (@pgx _ _ _ 12 sc__law_right.nd (by rfl)) (@pgs_cons _ _ _ _ _ (@pgx _ _ _ 13 sc__law_right.nd (by rfl)) (@pgs_cons _ _ _ _ _ (@pgx _ _ _ 14 sc__law_right.nd (by rfl)) (@pgs_nil _) (by rfl)) (by rfl)) (by rfl)) (by rfl) (by rfl) (by rfl) (by rfl)) (by rfl) (by rfl) (by rfl)) (@pss_cons _ _ _ _ _ (@ps_set _ _ (15) _ _ _ _ sc__law_right.nd rfl (loc_of (by rfl)) (@pe_op _ _ _ _ _ _ _ _ (@o_catT _) (@pe_slice _ _ _ _ _ _ _ _ _ _ (@s_tup _) (@cx _ 1 _ _ (by rfl)) (@po_none _) (@po_some _ _ _ (@pe_int _ _ _ _))) (@c_tupG _ _ _ _ _ (@pa1 _ _ _ (@c_tupG _ _ _ _ _ (@pa3 _ _ _ _ _ _ _ (@cx _ 12 _ _ (by rfl)) (@cx _ 13 _ _ (by rfl)) (@pe_callB _ _ _ _ _ _ _ _ _ (@call_min2 _ rfl) rfl T.b_min boot_min (@pa2 _ _ _ _ _ (@cx _ 13 _ _ (by rfl)) (@pe_op _ _ _ _ _ _ _ _ (@o_add _) (@cx _ 14 _ _ (by rfl)) (@pe_int _ _ _ _)) (by rfl)) (by decide) (by decide) (by rfl) (by rfl)) (by rfl))) (by rfl)))) (by rfl) (fl_of (by rfl))) (@pss_one _ _ _ (@ps_ret _ _ _ _ (@c_andV _ _ _ _ _ _ _ (@pe_cmpR _ _ _ _ _ _ _ _ (@op_isN _) (@c_call _ _ _ _ _ _ _ _ _ _ D_stretch_of (hr.mono (by decide)) rfl (@pa2 _ _ _ _ _ (@cx _ 15 _ _ (by rfl)) (@cx _ 2 _ _ (by rfl)) (by rfl)) (by decide) (by rfl) (by rfl)) (@pe_non _ _ _) (nomark _)) (@pe_one _ _ _ _ _ (@c_call _ _ _ _ _ _ _ _ _ _ D__law_leanest_right (hr.mono (by decide)) rfl (@pa3 _ _ _ _ _ _ _ (@cx _ 1 _ _ (by rfl)) (@cx _ 2 _ _ (by rfl)) (@cx _ 8 _ _ (by rfl)) (by rfl)) (by decide) (by rfl) (by rfl)))))))))))))), ?_⟩
 unfold sp__law_right at h
 split at h
 ·rename_i p v u c0
  obtain ⟨pn, P, S, ok, so, rv, ru, rc, q⟩ := h
  have f : ∀ {H1 H2 : Hp}, Same H1 H2 → Ev p H1 H2 := fun s => Ev.same s
  have x1 := so.x1
  have x8 := so.x8
  have fc := FOk.caps (S := S) ok
  refine ⟨p, P, S, ok, so, rv, ru, fun w1 H1 s1 r1 => ⟨p, P, S, ok, so, Rep.ev (f s1) _ _ rv, Rep.ev (f s1) _ _ ru, fun w2 H2 s2 r2 => ?_⟩⟩
  have s12 := s1.trans s2
  refine ⟨p, P, S, ok, so, Rep.ev (f s12) _ _ rv, Rep.ev (f s12) _ _ ru, fun k s w3 H3 run s3 r3 => ⟨_, _, _, rfl, ?_⟩⟩
  have s13 := s12.trans s3
  have kle := run.le
  have tr3 : Tri p H3 P S (caps P S) v u w1 := ⟨ok, so, fc, Rep.ev (f s13) _ _ rv, Rep.ev (f s13) _ _ ru, Rep.ev (f (s2.trans s3)) _ _ r1⟩
  refine ⟨p, P, S, caps P S, tr3, fun R H4 k4 s4' xs4 run4 s4 hR kR rx => ⟨R, rfl, ⟨_, SqL.of kR⟩, mains_walk kR rx (by have := run4.le; omega) fun H5 s5 => fun l hl => ⟨l, _, rfl, .inl ⟨SqL.of upd_same, fun l2 hl2 => ?_⟩⟩⟩⟩
  obtain ⟨rfl, rfl⟩ := run.uniq run4
  have n1 := Same.new (o := .lst ((mainsTo P S (caps P S) k).map V.int)) hl
  have n2 := Same.new (o := .tup ((mainsTo P S (caps P S) k).map V.int)) hl2
  have r2l : Rep p (upd (upd H5 l (.lst ((mainsTo P S (caps P S) k).map V.int))) l2 (.tup ((mainsTo P S (caps P S) k).map V.int))) (rowD (mainsTo P S (caps P S) k)) (.ref l2) := Rep.row upd_same
  have s35 := s4.trans (s5.trans (n1.trans n2))
  generalize upd (upd H5 l (.lst ((mainsTo P S (caps P S) k).map V.int))) l2 (.tup ((mainsTo P S (caps P S) k).map V.int)) = H6 at n2 r2l s35 ⊢
  obtain ⟨ly1, ly2, ly3⟩ := lay_row (r := mainsTo P S (caps P S) k)
  refine ⟨p, _, _, Rep.ev (f s35) _ _ r3, r2l, ly1, ly2, ly3, ly1, ly2, ?_⟩
  rw [eqv_row]
  refine ⟨fun z => (by cases z), fun _ => ?_⟩
  have s16 := s13.trans s35
  refine ⟨p, P, S, caps P S, tr3.sm s35, fun sv H7 k7 s7' run7 s7 rsv => ?_⟩
  obtain ⟨rfl, rfl⟩ := run.uniq run7
  have s17 := s16.trans s7
  refine ⟨p, P, S, ok, so, Rep.ev (f s17) _ _ rv, Rep.ev (f s17) _ _ ru, fun w8 H8 s8 r8 => ⟨_, _, rfl, ?_⟩⟩
  have s18 := s17.trans s8
  have s38 := s35.trans (s7.trans s8)
  obtain ⟨M3, rfl, hM3⟩ := Rep.ofRow r3
  have hM8 := s38 _ _ hM3
  unfold leanD at r8
  cases z : leastStr (terms P S) with
  | some s0 =>
   rw [z] at r8 r2
   have e8 : w8 = .non := by unfold Rep at r8; exact r8
   subst e8
   obtain ⟨A2, rfl, hA2⟩ := Rep.pair r2
   have h28 := (s3.trans s38) _ _ hA2
   have nn : ¬ ∀ i, i < S.ex.length → P.lo ≤ pmAt P S (caps P S) i := fun up => by have := (keeps_str ok so).mp up; rw [z] at this; cases this
   rcases run.fin with ⟨rfl, rfl⟩ | ⟨kl, pl, rfl⟩
   ·exact absurd run.up nn
   obtain ⟨A7, ys7, rfl, hA7, rs7⟩ := Rep.shape rsv
   obtain ⟨y1, y2, rfl, q1, q2⟩ := Reps.two rs7
   unfold Rep at q1 q2
   subst q1 q2
   refine ⟨rfl, rfl, rfl, ⟨fun c => (by simp at c), fun _ => ⟨rfl, rfl, rfl, ⟨fun c => (by simp at c), fun _ => ?_⟩⟩⟩⟩
   refine ⟨rfl, ⟨fun _ => ?_, fun c => (by simp at c)⟩⟩
   obtain ⟨g1, g2, g3⟩ := least_gotL z
   refine ⟨p, P, S, pD s0, ok, so, Rep.ev (f s18) _ _ rv, Rep.ev (f s18) _ _ ru, Rep.ev (f (s3.trans s38)) _ _ r2, fun b H9 eb s9 => ⟨b, rfl, rfl, ?_⟩⟩
   have eb' : b = true := by rw [eb, isShown_pD g2, decide_eq_true g1, g3]; rfl
   subst eb'
   refine ⟨fun _ => ?_, fun c => (by cases c)⟩
   refine ⟨A2, _, 1, _, rfl, rfl, SqT.of (s9 _ _ h28), rfl, ?_⟩
   have d0 : decide ((0 : Int) ≤ (s0.2 : Int)) = true := decide_eq_true (by omega)
   refine ⟨fun _ => ?_, fun c => absurd c (by rw [d0]; decide)⟩
   refine ⟨M3, _, rfl, .inr (SqT.of (s9 _ _ hM8)), A7, _, 0, _, rfl, rfl, SqT.of ((s8.trans s9) _ _ hA7), rfl, rfl, ?_⟩
   have e : decide (V.int ((List.map V.int (mainsTo P S (caps P S) k)).length : Int) = V.int (k : Int)) = true := by rw [List.length_map, mainsTo_len]; exact decide_eq_true rfl
   have qq := q _ (f (s18.trans s9)) (pn.same (s18.trans s9))
   rw [← e] at qq
   exact qq
  | none =>
   rw [z] at r8 r2
   obtain ⟨W8, rfl, hW8⟩ := Rep.ofRow r8
   have e2 : w2 = .non := by unfold strD at r2; unfold Rep at r2; exact r2
   subst e2
   have up := (keeps_str ok so).mpr z
   have rs0 : s = none ∧ k = S.ex.length := by
    rcases run.fin with h | ⟨kl, pl, _⟩
    ·exact h
    ·have := up k kl; omega
   obtain ⟨rfl, ek⟩ := rs0
   have e7 : sv = .non := by unfold shortD at rsv; unfold Rep at rsv; exact rsv
   subst e7
   refine ⟨rfl, rfl, rfl, ⟨fun c => (by simp at c), fun _ => ⟨rfl, rfl, rfl, ⟨fun c => (by simp at c), fun _ => ?_⟩⟩⟩⟩
   refine ⟨rfl, ⟨fun c => (by simp at c), fun _ => ?_⟩⟩
   have pn8 := pn.same s18
   refine ⟨3, rfl, by decide, by decide, for_range (n := (3 : Int).toNat) (fun i σ H' => (∃ x9 x10 x11, σ = [some (.ref p), some v, some u, some c0, some w1, some .non, some (.ref M3), some .non, some (.ref W8), x9, x10, x11, none, none, none, none]) ∧ Ev p H8 H' ∧ Pen p H') ⟨⟨_, _, _, rfl⟩, Ev.refl, pn8⟩ (fun i σ H' hi h => ?_) fun σ H' h => ?_⟩
   ·obtain ⟨⟨x9, x10, x11, rfl⟩, ev, pn9⟩ := h
    have e9 : Ev p H H' := (f s18).trans ev
    refine ⟨pn9, P, S, ok, so, Rep.ev e9 _ _ rc, fun wF H10 F fo rF e10 pn10 => ?_⟩
    have eA := e9.trans e10
    have e8 := ev.trans e10
    have trF : Tri p H10 P S F v u wF := ⟨ok, so, fo, Rep.ev eA _ _ rv, Rep.ev eA _ _ ru, rF⟩
    refine ⟨p, P, S, F, trF, fun R H11 k1 s1' xs1 run1 s11 hR1 kR1 rx1 => ⟨R, rfl, ⟨_, SqL.of kR1⟩, mains_walk kR1 rx1 (by have := run1.le; omega) fun H12 s12' => fun l hl => ?_⟩⟩
    have n1 := Same.new (o := .lst ((mainsTo P S F k1).map V.int)) hl
    have kl : upd H12 l (.lst ((mainsTo P S F k1).map V.int)) l = some (.lst ((mainsTo P S F k1).map V.int)) := upd_same
    have s10' := s11.trans (s12'.trans n1)
    generalize upd H12 l (.lst ((mainsTo P S F k1).map V.int)) = H13 at n1 kl s10' ⊢
    have e13 := e8.trans (f s10')
    have hM13 := e13.tup hM8
    have hW13 := e13.tup hW8
    have mc := fok_made fo
    have k1le := run1.le
    refine ⟨l, M3, rfl, ⟨_, SqL.of kl⟩, ⟨_, SqT.of hM13⟩, walk_zipLe (xs := (mainsTo P S F k1).map V.int) (ys := (mainsTo P S (caps P S) k).map V.int) (fun i ys H' => Same H13 H' ∧ ys = []) (by rw [List.length_map, mainsTo_len]; omega) (by rw [List.length_map, mainsTo_len, List.length_map, mainsTo_len]; omega) ⟨Same.refl _, rfl⟩ (fun i ys H' h => by rw [h.2]; exact Nat.zero_le _) (fun i ys H' h => ⟨SqL.of (h.1 _ _ kl), SqT.of (h.1 _ _ hM13)⟩) (fun i x y ys H' T hx hy h hT => ?_) fun ys H14 h => ?_⟩
    ·obtain ⟨sm, rfl⟩ := h
     obtain ⟨_, rfl⟩ := mainsTo_at hx
     obtain ⟨_, rfl⟩ := mainsTo_at hy
     have ml := main_mono (P := P) (S := S) mc (i + 1)
     refine ⟨T, _, rfl, SqT.of upd_same, rfl, _, _, rfl, _, _, rfl, rfl, ⟨trivial, ⟨fun c => absurd (of_decide_eq_true c) (by omega), fun _ => ⟨sm.trans (Same.new hT), rfl⟩⟩⟩⟩
    obtain ⟨sm14, rfl⟩ := h
    refine fun l3 hl3 => fun l4 H15 s15 hl4 kl4 => ⟨l3, l4, _, rfl, rfl, s15 _ _ upd_same, kl4, ⟨fun c => (by cases c), fun _ => ?_⟩⟩
    have s1015 := s10'.trans (sm14.trans ((Same.new (o := .lst []) hl3).trans s15))
    have s1315 := sm14.trans ((Same.new (o := .lst []) hl3).trans s15)
    have tr15 := trF.sm s1015
    refine ⟨p, P, S, F, tr15, fun H16 k6 s6' run6 s16' => ⟨fun c => ?_, fun c => ⟨fun z => (by cases z), fun _ => ⟨⟨_, _, _, rfl⟩, e8.trans (f (s1015.trans s16')), pn10.same (s1015.trans s16')⟩⟩⟩⟩
    obtain ⟨rfl, rfl⟩ := run1.uniq run6
    have zn : s1' = none := by cases s1' with
     | none => rfl
     | some z => cases c
    subst zn
    have ek1 : k1 = S.ex.length := by rcases run1.fin with ⟨_, z⟩ | ⟨_, _, z⟩; exact z; cases z
    have s1316 := s1315.trans s16'
    have kl16 := s1316 _ _ kl
    have hW16 := s1316 _ _ hW13
    have upF : ∀ i, i < S.ex.length → P.lo ≤ pmAt P S F i := fun i hi => run1.up i (by omega)
    have lms : ((leastMs (terms P S)).map V.int).length = S.ex.length := by rw [List.length_map, leastMs_len]; exact draws_len
    refine ⟨l, W8, rfl, ⟨_, SqL.of kl16⟩, ⟨_, SqT.of hW16⟩, walk_zipLe (xs := (mainsTo P S F k1).map V.int) (ys := (leastMs (terms P S)).map V.int) (fun i ys H' => Same H16 H' ∧ ys = []) (by rw [List.length_map, mainsTo_len]; omega) (by rw [List.length_map, mainsTo_len, lms]; omega) ⟨Same.refl _, rfl⟩ (fun i ys H' h => by rw [h.2]; exact Nat.zero_le _) (fun i ys H' h => ⟨SqL.of (h.1 _ _ kl16), SqT.of (h.1 _ _ hW16)⟩) (fun i x y ys H' T hx hy h hT => ?_) fun ys H17 h => ?_⟩
    ·obtain ⟨sm, rfl⟩ := h
     obtain ⟨hi1, rfl⟩ := mainsTo_at hx
     have hy2 := leastMs_at (T := terms P S) (k := i) (by rw [show (terms P S).ds.length = S.ex.length from draws_len]; omega)
     rw [hy2] at hy
     cases hy
     have ml := keeps_lz (P := P) (S := S) (F := F) ok mc upF (i := i + 1) (by omega)
     refine ⟨T, _, rfl, SqT.of upd_same, rfl, _, _, rfl, _, _, rfl, rfl, ⟨trivial, ⟨fun c => absurd (of_decide_eq_true c) (by omega), fun _ => ⟨sm.trans (Same.new hT), rfl⟩⟩⟩⟩
    obtain ⟨sm17, rfl⟩ := h
    refine fun l5 hl5 => fun l6 H18 s18' hl6 kl6 => ⟨l5, l6, _, rfl, rfl, s18' _ _ upd_same, kl6, ⟨fun c => (by cases c), fun _ => ?_⟩⟩
    have s1018 := (s1015.trans s16').trans (sm17.trans ((Same.new (o := .lst []) hl5).trans s18'))
    exact ⟨⟨_, _, _, rfl⟩, e8.trans (f s1018), pn10.same s1018⟩
   ·obtain ⟨⟨x9, x10, x11, rfl⟩, ev, pn9⟩ := h
    have e9 : Ev p H H' := (f s18).trans ev
    obtain ⟨A', BA, EA, MA, xb, xe, rfl, hA, hBA, rb, hEA, re, hMA⟩ := Rep.plant (Rep.ev e9 _ _ rv)
    have ru9 := Rep.ev e9 _ _ ru
    have rv9 := Rep.ev e9 _ _ rv
    refine ⟨A', _, 2, .ref MA, rfl, rfl, SqT.of hA, rfl, MA, _, rfl, SqT.of hMA, rfl, _, _, rfl, _, _, rfl, _, _, rfl, rfl, ?_⟩
    have cu2 : cutV [V.ref BA, V.ref EA, V.ref MA] none (some 2) = [.ref BA, .ref EA] := cut_take (i := 2) (by show 2 ≤ 3; decide)
    refine ⟨2, rfl, A', _, rfl, hA, fun t3 G3 g3 k3 => ⟨_, _, rfl, fun t4 G4 g4 k4 => fun t5 G5 g5 k5 => ⟨t3, t5, _, _, rfl, rfl, (g4.trans g5) _ _ k3, k5, by rw [cu2]; show 2 + 1 ≤ 1000; decide, fun t6 G6 g6 k6 => ?_⟩⟩⟩
    rw [cu2] at k6
    have g9 := g3.trans (g4.trans (g5.trans g6))
    have mn : ∃ m', m' = (if P.st + 1 < P.hi then P.st + 1 else P.hi) ∧ P.st ≤ m' ∧ m' ≤ P.hi := ⟨_, rfl, by have := ok.sh; split <;> omega, by split <;> omega⟩
    obtain ⟨m', em', m1, m2⟩ := mn
    have k4' : G4 t4 = some (.tup [.int P.lo, .int P.hi, .int m']) := by rw [em']; exact k4
    have r6 : Rep p G6 (fullerP P m').d (.ref t6) := Rep.tup k6 (.cons (Rep.tup (g9 _ _ hBA) (Reps.ev (f g9) _ _ rb)) (.cons (Rep.tup (g9 _ _ hEA) (Reps.ev (f g9) _ _ re)) (.cons (Rep.tup ((g5.trans g6) _ _ k4') (.cons Rep.int (.cons Rep.int (.cons Rep.int .nil)))) .nil)))
    have okf : (fullerP P m').ok := ⟨ok.b, ok.b1, ok.b4, ok.e, ok.e4, ok.lo0, (by have := ok.ls; show P.lo ≤ m'; omega), m2, ok.h4⟩
    have sof : S.ok (fullerP P m').bs.length := so
    refine ⟨p, fullerP P m', S, okf, sof, r6, Rep.ev (f g9) _ _ ru9, fun w7 G7 g7 r7 => ⟨rfl, ?_⟩⟩
    rw [fuller_no m1 z] at r7
    have e7 : w7 = .non := by unfold strD at r7; unfold Rep at r7; exact r7
    subst e7
    refine ⟨fun _ => ?_, fun c => (by simp at c)⟩
    have g97 := g9.trans g7
    refine ⟨p, P, S, ok, so, Rep.ev (f g97) _ _ rv9, Rep.ev (f g97) _ _ ru9, z, Rep.row ((ev.trans (f g97)).tup hW8), fun G8 g8 => ?_⟩
    exact q _ (e9.trans (f (g97.trans g8))) (pn9.same (g97.trans g8))
 ·exact h.elim
end
end MF

end

section
namespace MF
open PySem PySem.Spec PyProof.Rows L2
theorem big_listY {n : Nat} (h : n ≤ 1000) : n ≤ sizeLine := Nat.le_trans h (by decide)
theorem cut_memY {xs : List V} {lo hi : Option Int} {v : V} (h : v ∈ cutV xs lo hi) : v ∈ xs := by unfold cutV at h; exact List.mem_of_mem_drop (List.mem_of_mem_take h)
def thirdS (S : SY) : SY := ⟨S.ex.map fun x => x / 3, S.fs.take 1⟩
theorem third_ok {S : SY} {n : Nat} (so : S.ok n) : (thirdS S).ok n := by
 have el : (thirdS S).ex.length = S.ex.length := by show (S.ex.map _).length = _; rw [List.length_map]
 refine ⟨by rw [el]; exact so.x1, by rw [el]; exact so.x8, fun u hu => ?_, ?_, fun x hx => ?_⟩
 ·obtain ⟨y, hy, rfl⟩ := List.mem_map.mp hu
  have := so.x y hy
  show 0 ≤ y / 3 ∧ y / 3 ≤ 20
  omega
 ·show (S.fs.take 1).length ≤ 4
  rw [List.length_take]; omega
 ·rw [el]; exact so.f x (List.mem_of_mem_take hx)
theorem Reps.tk {p : Addr} {H : Hp} : ∀ {ds : List PyData} {xs : List V}, Reps p H ds xs → ∀ n, Reps p H (ds.take n) (xs.take n)
 | [], xs, r, n => by unfold Reps at r; subst r; rw [List.take_nil, List.take_nil]; exact .nil
 | d :: ds, xs, r, n => by
  unfold Reps at r
  obtain ⟨x, t, rfl, rx, rt⟩ := r
  cases n with
  | zero => exact .nil
  | succ n => exact .cons rx (Reps.tk rt n)
def sp_lawP (K : PySem.W.Frag) : Sp := fun vs H Q _ => match vs with | [.ref a] => ∃ ns : List Int, SqL K H a (ns.map V.int) ∧ ns.length ≤ 63 ∧ ∀ H', Q (.bl true) H' | _ => False
theorem len_lawP {K vs H Q E} (h : sp_lawP K vs H Q E) : vs.length = 1 := by unfold sp_lawP at h; split at h; rfl; exact h.elim
section
variable {P : Program} {w : World} {K : PySem.W.Frag} {mg : Str → Option Value} {base : Heap}
theorem sc_law : FnScope ["_law_script", "_law_cell_here", "_law_pen_here", "_law_turn", "_law_plant_here", "_law_story_here", "_law_other"] ["_law_script"] (defScope s_law) := ⟨rfl, rfl, rfl, by decide +kernel, rfl, by decide +kernel, by decide +kernel⟩
theorem ok_law {lf : Addr} {lfd : FuncData} (F : Fun K "law" "law" s_law lf lfd) (T : Tx mg) (D__law_caps : Fn P w K mg base 1 "_law_caps" ["_law_plant_here", "_law_story_here"] sp__law_caps) (D__law_cell : Fn P w K mg base 1 "_law_cell" ["_law_script", "_law_k"] (sp__law_cell K)) (D__law_pen : Fn P w K mg base 1 "_law_pen" ["_law_cell_here"] sp__law_pen) (D__law_plant : Fn P w K mg base 2 "_law_plant" ["_law_pen_here"] sp__law_plant) (D__law_right : Fn P w K mg base 15 "_law_right" ["_law_pen_here", "_law_plant_here", "_law_story_here", "_law_caps_here"] sp__law_right) (D__law_story : Fn P w K mg base 2 "_law_story" ["_law_pen_here", "_law_plant_here"] sp__law_story) : FnOk P w K mg base CX0 16 lf lfd ["_law_script"] (sp_lawP K) := by
 refine F.ok sc_law (fun vs H Q E h => ?_) (fun cdv A outer s H vs Q E hr h => ?_)
 ·exact len_lawP h
 refine ⟨_, (@pss_cons _ _ _ _ _ (@ps_for _ _ _ _ _ _ _ _ PassesOwn.never rfl (@piL _ K _ _ _ (@pe_op _ _ _ _ _ _ _ _ (@op_catG _) (@c_lstG _ _ _ _ (@pa1 _ _ _ (@c_call _ _ _ _ _ _ _ _ _ _ D__law_cell (hr.mono (by decide)) rfl (@pa2 _ _ _ _ _ (@cx _ 0 _ _ (by rfl)) (@pe_int _ _ _ _) (by rfl)) (by decide) (by rfl) (by rfl)) (by rfl))) (@pe_slice _ _ _ _ _ _ _ _ _ _ (@slL _ K (by rfl)) (@cx _ 0 _ _ (by rfl)) (@po_some _ _ _ (@pe_int _ _ _ _)) (@po_some _ _ _ (@pe_int _ _ _ _)))) (by rfl)) (@pgx _ _ _ 1 sc_law.nd (by rfl)) (@pss_cons _ _ _ _ _ (@ps_set _ _ (2) _ _ _ _ sc_law.nd rfl (loc_of (by rfl)) (@c_call _ _ _ _ _ _ _ _ _ _ D__law_pen (hr.mono (by decide)) rfl (@pa1 _ _ _ (@cx _ 1 _ _ (by rfl)) (by rfl)) (by decide) (by rfl) (by rfl)) (by rfl) (fl_of (by rfl))) (@pss_one _ _ _ (@ps_for _ _ _ _ _ _ _ _ PassesOwn.never rfl (@pi_range1 _ _ _ _ _ _ rfl T.b_range (@pa1 _ _ _ (@pe_int _ _ _ _) (by rfl)) (by rfl)) (@pgx _ _ _ 3 sc_law.nd (by rfl)) (@pss_cons _ _ _ _ _ (@ps_set _ _ (4) _ _ _ _ sc_law.nd rfl (loc_of (by rfl)) (@c_call _ _ _ _ _ _ _ _ _ _ D__law_plant (hr.mono (by decide)) rfl (@pa1 _ _ _ (@cx _ 2 _ _ (by rfl)) (by rfl)) (by decide) (by rfl) (by rfl)) (by rfl) (fl_of (by rfl))) (@pss_cons _ _ _ _ _ (@ps_set _ _ (5) _ _ _ _ sc_law.nd rfl (loc_of (by rfl)) (@c_call _ _ _ _ _ _ _ _ _ _ D__law_story (hr.mono (by decide)) rfl (@pa2 _ _ _ _ _ (@cx _ 2 _ _ (by rfl)) (@cx _ 4 _ _ (by rfl)) (by rfl)) (by decide) (by rfl) (by rfl)) (by rfl) (fl_of (by rfl))) (@pss_one _ _ _ (@ps_for _ _ _ _ _ _ _ _ PassesOwn.never rfl (@piL _ K _ _ _ (@c_lstG _ _ _ _ (@pa2 _ _ _ _ _ (@cx _ 5 _ _ (by rfl)) (@c_tupG _ _ _ _ _ (@pa2 _ _ _ _ _ (@pe_callTy _ _ _ _ _ _ _ _ _ (@tupOf _ K (by rfl)) rfl T.b_tuple boot_tuple' (@pa1 _ _ _ (@pe_comp _ _ _ _ _ _ _ _ _ _ _ ["_law_one"] [none] rfl (@piT _ K _ _ _ (@pe_ix _ _ _ _ _ _ _ (@ixT _ K (by rfl)) (@cx _ 5 _ _ (by rfl)) (@pe_int _ _ _ _) (fun _ _ => rfl)) (by rfl)) (BlockScope.of rfl) (fun _ _ _ _ => (@pgx _ _ _ 0 (nd_of (by rfl)) (by rfl))) (fun _ _ _ _ => (@pts_nil _)) (fun _ _ _ _ => (@pe_op _ _ _ _ _ _ _ _ (@o_fdiv _) (@cx _ 0 _ _ (by rfl)) (@pe_int _ _ _ _))) (by intro _; rfl)) (by rfl)) (by decide) (by decide) (by rfl) (by rfl)) (@pe_slice _ _ _ _ _ _ _ _ _ _ (@s_tup _) (@pe_ix _ _ _ _ _ _ _ (@ixT _ K (by rfl)) (@cx _ 5 _ _ (by rfl)) (@pe_int _ _ _ _) (fun _ _ => rfl)) (@po_none _) (@po_some _ _ _ (@pe_int _ _ _ _))) (by rfl))) (by rfl))) (by rfl)) (@pgx _ _ _ 6 sc_law.nd (by rfl)) (@pss_one _ _ _ (@c_if _ _ _ _ _ _ _ _ (@pt_not _ _ _ _ (@c_val _ _ _ (@c_call _ _ _ _ _ _ _ _ _ _ D__law_right (hr.mono (by decide)) rfl (@pa4 _ _ _ _ _ _ _ _ _ (@cx _ 2 _ _ (by rfl)) (@cx _ 4 _ _ (by rfl)) (@cx _ 6 _ _ (by rfl)) (@c_call _ _ _ _ _ _ _ _ _ _ D__law_caps (hr.mono (by decide)) rfl (@pa2 _ _ _ _ _ (@cx _ 4 _ _ (by rfl)) (@cx _ 6 _ _ (by rfl)) (by rfl)) (by decide) (by rfl) (by rfl)) (by rfl)) (by decide) (by rfl) (by rfl)) (by intro _; rfl))) (@pss_one _ _ _ (@ps_ret _ _ _ _ (@pe_bl _ _ _ _))) (@pss_nil _))) (by intro _; rfl))))) (by intro _; rfl)))) (by intro _; rfl)) (@pss_one _ _ _ (@ps_ret _ _ _ _ (@pe_bl _ _ _ _)))), ?_⟩
 unfold sp_lawP at h
 split at h
 ·rename_i a
  obtain ⟨ns, hS, hn63, q⟩ := h
  refine ⟨ns, hS, by decide, fun c0 l1 H01 s01 hl1 k01 => ?_⟩
  have hS1 : SqL K H01 a (ns.map V.int) := s01.seq hS
  refine ⟨1, rfl, 2, rfl, a, _, rfl, hS1, fun l2 hl2 => ?_⟩
  have lc : (cutV (ns.map V.int) (some 1) (some 2)).length ≤ 63 := Nat.le_trans (cutV_length _ _ _) (by rw [List.length_map]; exact hn63)
  refine ⟨l1, l2, [.int c0], _, rfl, rfl, (Same.new hl2) _ _ k01, upd_same, big_listY (by rw [List.length_singleton]; omega), fun L H02 s02 hL kL => ?_⟩
  have allI : ∀ v ∈ [V.int c0] ++ cutV (ns.map V.int) (some 1) (some 2), ∃ i, v = .int i := fun v hv => by
   rcases List.mem_append.mp hv with hv | hv
   ·exact ⟨c0, List.mem_singleton.mp hv⟩
   ·obtain ⟨i, _, e⟩ := List.mem_map.mp (cut_memY hv); exact ⟨i, e.symm⟩
  generalize [V.int c0] ++ cutV (ns.map V.int) (some 1) (some 2) = xs at allI kL
  refine ⟨L, rfl, ⟨xs, SqL.of kL⟩, for_list (xs := xs) (fun i σ H' => (∃ x1 x2 x3 x4 x5 x6, σ = [some (.ref a), x1, x2, x3, x4, x5, x6]) ∧ H' L = some (.lst xs)) ⟨⟨_, _, _, _, _, _, rfl⟩, kL⟩ (fun i σ H' _ h => SqL.of h.2) (fun i x σ H1 hx h => ?_) fun σ H1 h => q H1⟩
  obtain ⟨⟨x1, x2, x3, x4, x5, x6, rfl⟩, hL1⟩ := h
  obtain ⟨c, rfl⟩ := allI x (List.mem_of_getElem? hx)
  refine fun p l f hp => ?_
  have nLp : L ≠ p := ne_of_none hL1 hp
  have np := Same.new (o := .lst [.int l, .int f]) hp
  have pn2 : Pen p (upd H1 p (.lst [.int l, .int f])) := ⟨l, f, upd_same⟩
  have hL2 := np _ _ hL1
  generalize upd H1 p (.lst [.int l, .int f]) = H2 at np pn2 hL2 ⊢
  refine ⟨2, rfl, by decide, by decide, for_range (n := 2) (fun i σ H' => (∃ x3 x4 x5 x6, σ = [some (.ref a), some (.int c), some (.ref p), x3, x4, x5, x6]) ∧ H' L = some (.lst xs) ∧ Pen p H') ⟨⟨_, _, _, _, rfl⟩, hL2, pn2⟩ (fun i0 σ H' hi h => ?_) fun σ H' h => ?_⟩
  ·obtain ⟨⟨x3, x4, x5, x6, rfl⟩, hL3, pn3⟩ := h
   refine ⟨pn3, fun v H3 bs es lo hi' st gp rv e3 pn4 => ?_⟩
   obtain ⟨P, ok, eP⟩ := gp.pl
   rw [eP] at rv
   refine ⟨pn4, P, ok, rv, fun u H4 S so ru e4 pn5 => ?_⟩
   have rv4 := Rep.ev e4 _ _ rv
   have x8' := so.x8
   obtain ⟨SA, SB, SE, xf, rfl, hSA, hSB, hSE, rf⟩ := Rep.story ru
   have c1 : cutV xf none (some 1) = xf.take 1 := by
    by_cases hx : 1 ≤ xf.length
    ·exact cut_take (i := 1) hx
    ·have : xf = [] := List.length_eq_zero_iff.mp (by omega)
     subst this; rfl
   refine ⟨SA, _, 0, _, rfl, rfl, SqT.of hSA, rfl, SB, rfl, ⟨_, SqT.of hSB⟩, walk_tup (xs := S.ex.map V.int) (fun i ys H' => Same H4 H' ∧ ys = (((S.ex.map fun x => x / 3).take i).map V.int)) (by rw [List.length_map]; omega) ⟨Same.refl _, rfl⟩ (fun i ys H' h => by rw [h.2, List.length_map, List.length_take]; omega) (fun i ys H' _ h => SqT.of (h.1 _ _ hSB)) (fun i x ys H' hx h => ?_) fun ys H5 h => ?_⟩
   ·obtain ⟨sm, rfl⟩ := h
    rw [List.getElem?_map] at hx
    cases z : S.ex[i]? with
    | none => rw [z] at hx; cases hx
    | some y =>
     rw [z] at hx
     cases hx
     refine ⟨trivial, fun _ => ⟨⟨by decide, by decide⟩, sm, ?_⟩, fun c => (by cases c)⟩
     rw [take_next (x := y / 3) (by rw [List.getElem?_map, z]; rfl), List.map_append]; rfl
   ·obtain ⟨sm, rfl⟩ := h
    rw [List.take_of_length_le (by rw [List.length_map, List.length_map]; exact Nat.le_refl _)]
    refine fun l4 hl4 => ⟨l4, _, rfl, .inl ⟨SqL.of upd_same, fun l5 hl5 => ?_⟩⟩
    have n4 := Same.new (o := .lst ((S.ex.map fun x => x / 3).map V.int)) hl4
    have n5 := Same.new (o := .tup ((S.ex.map fun x => x / 3).map V.int)) hl5
    have k5 : upd (upd H5 l4 (.lst ((S.ex.map fun x => x / 3).map V.int))) l5 (.tup ((S.ex.map fun x => x / 3).map V.int)) l5 = some (.tup ((S.ex.map fun x => x / 3).map V.int)) := upd_same
    have m5 := sm.trans (n4.trans n5)
    generalize upd (upd H5 l4 (.lst ((S.ex.map fun x => x / 3).map V.int))) l5 (.tup ((S.ex.map fun x => x / 3).map V.int)) = H6 at k5 m5 ⊢
    refine ⟨SA, _, 1, _, rfl, rfl, SqT.of (m5 _ _ hSA), rfl, 1, rfl, SE, _, rfl, m5 _ _ hSE, fun t7 H7 s7 k7 => fun t8 H8 s8 k8 => fun L9 H9 s9 hL9 k9 => ?_⟩
    rw [c1] at k7
    have m9 := m5.trans (s7.trans (s8.trans s9))
    have rT : Rep p H9 (thirdS S).d (.ref t8) := Rep.tup (s9 _ _ k8) (.cons (Rep.row ((s7.trans (s8.trans s9)) _ _ k5)) (.cons (Rep.tup ((s8.trans s9) _ _ k7) (by show Reps p H9 ((S.fs.take 1).map FT.d) _; rw [List.map_take]; exact Reps.tk (Reps.ev (Ev.same m9) _ _ rf) 1)) .nil))
    have pn9 := pn5.same m9
    have e9 : Ev p H' H9 := e3.trans (e4.trans (Ev.same m9))
    have hL9' := e9.lst hL3 nLp
    have nL9 : L9 ≠ p := (pn5.same (m5.trans (s7.trans s8))).ne hL9
    refine ⟨L9, rfl, ⟨_, SqL.of k9⟩, for_list (xs := [.ref SA, .ref t8]) (fun i σ H' => (∃ x6, σ = [some (.ref a), some (.int c), some (.ref p), some (.int (0 + (i0 : Int))), some v, some (.ref SA), x6]) ∧ Ev p H9 H' ∧ Pen p H') ⟨⟨_, rfl⟩, Ev.refl, pn9⟩ (fun i σ H' _ h => SqL.of (h.2.1.lst k9 nL9)) (fun i x σ G hx h => ?_) fun σ G h => ?_⟩
    ·obtain ⟨⟨x6, rfl⟩, ev, png⟩ := h
     have rvG := Rep.ev ((Ev.same m9).trans ev) _ _ rv4
     obtain ⟨S2, so2, r2⟩ : ∃ S2 : SY, S2.ok P.bs.length ∧ Rep p G S2.d x := by
      match i, hx with
      | 0, hx => cases hx; exact ⟨S, so, Rep.ev ((Ev.same m9).trans ev) _ _ ru⟩
      | 1, hx => cases hx; exact ⟨thirdS S, third_ok so, Rep.ev ev _ _ rT⟩
     refine ⟨p, P, S2, ok, so2, rvG, r2, fun w G1 g1 rc => ?_⟩
     refine ⟨png.same g1, P, S2, ok, so2, Rep.ev (Ev.same g1) _ _ rvG, Rep.ev (Ev.same g1) _ _ r2, rc, fun G2 g2 pn2' => ?_⟩
     exact ⟨fun z => (by cases z), fun _ => ⟨⟨_, rfl⟩, ev.trans ((Ev.same g1).trans g2), pn2'⟩⟩
    ·obtain ⟨⟨x6, rfl⟩, ev, png⟩ := h
     exact ⟨⟨_, _, _, _, rfl⟩, (e9.trans ev).lst hL3 nLp, png⟩
  ·obtain ⟨⟨x3, x4, x5, x6, rfl⟩, hL3, pn3⟩ := h
   exact ⟨⟨_, _, _, _, _, _, rfl⟩, hL3⟩
 ·exact h.elim
end
end MF

end

section
namespace MF
open PySem PySem.Spec PyProof.Rows L2
abbrev D4 (K : PySem.W.Frag) (x : Str) (st : Stmt) : Prop := ∃ (f : Addr) (oc : Value) (od an : Option Addr) (sl : Array (Option Value)) (kV dc pm cd ct : Value), PySem.W.nsIn K mainGlobals x = some (some (.ref f)) ∧ K.lookup f = some ⟨oc, od, .func (PySem.W.fnOf x x (defArgs st) (defBody st) (defScope st) .none kV dc pm an cd ct), sl⟩ ∧ PySem.W.codeIn K cd x = true ∧ PySem.W.keepIn K (.ref f) = true
theorem d4_mk {K : PySem.W.Frag} {x : Str} {st : Stmt} {f : Addr} {oc : Value} {od an : Option Addr} {sl : Array (Option Value)} {kV dc pm cd ct : Value} (a : PySem.W.nsIn K mainGlobals x = some (some (.ref f))) (l : K.lookup f = some ⟨oc, od, .func (PySem.W.fnOf x x (defArgs st) (defBody st) (defScope st) .none kV dc pm an cd ct), sl⟩) (c : PySem.W.codeIn K cd x = true) (k : PySem.W.keepIn K (.ref f) = true) : D4 K x st := ⟨_, _, _, _, _, _, _, _, _, _, a, l, c, k⟩
theorem df_mk {K : PySem.W.Frag} {h : Heap} {mg : Str → Option Value} {x : Str} {st : Stmt} {ps : List Str} (X : K.In h) (G : h.Ns mainGlobals mg) (d : D4 K x st)
  (hb : ∀ (kV doc pm : Value) (an : Option Addr) (cdv ct : Value) (us : List Value), us.length = ps.length → bindArgs (PySem.W.fnOf x x (defArgs st) (defBody st) (defScope st) .none kV doc pm an cdv ct) ⟨us, []⟩ = pure (ps.zip us)) : Df K mg x st ps := by
 obtain ⟨f, _, _, _, _, _, _, _, _, _, a, l, c, k⟩ := d
 exact ⟨f, _, fun_mk l c k, PySem.W.mg_of X G a, (fun_mk l c k).binds hb⟩
theorem df_1 {K : PySem.W.Frag} {h : Heap} {mg : Str → Option Value} {x : Str} {st : Stmt} {p0 : Str} (X : K.In h) (G : h.Ns mainGlobals mg) (d : D4 K x st) (hb : ∀ (kV doc pm : Value) (an : Option Addr) (cdv ct a0 : Value), bindArgs (PySem.W.fnOf x x (defArgs st) (defBody st) (defScope st) .none kV doc pm an cdv ct) ⟨[a0], []⟩ = pure ([p0].zip [a0]) := by intros; rfl) : Df K mg x st [p0] :=
 df_mk X G d fun _ _ _ _ _ _ us hl => match us, hl with | [_], _ => hb _ _ _ _ _ _ _
theorem df_2 {K : PySem.W.Frag} {h : Heap} {mg : Str → Option Value} {x : Str} {st : Stmt} {p0 p1 : Str} (X : K.In h) (G : h.Ns mainGlobals mg) (d : D4 K x st) (hb : ∀ (kV doc pm : Value) (an : Option Addr) (cdv ct a0 a1 : Value), bindArgs (PySem.W.fnOf x x (defArgs st) (defBody st) (defScope st) .none kV doc pm an cdv ct) ⟨[a0, a1], []⟩ = pure ([p0, p1].zip [a0, a1]) := by intros; rfl) : Df K mg x st [p0, p1] :=
 df_mk X G d fun _ _ _ _ _ _ us hl => match us, hl with | [_, _], _ => hb _ _ _ _ _ _ _ _
theorem df_3 {K : PySem.W.Frag} {h : Heap} {mg : Str → Option Value} {x : Str} {st : Stmt} {p0 p1 p2 : Str} (X : K.In h) (G : h.Ns mainGlobals mg) (d : D4 K x st) (hb : ∀ (kV doc pm : Value) (an : Option Addr) (cdv ct a0 a1 a2 : Value), bindArgs (PySem.W.fnOf x x (defArgs st) (defBody st) (defScope st) .none kV doc pm an cdv ct) ⟨[a0, a1, a2], []⟩ = pure ([p0, p1, p2].zip [a0, a1, a2]) := by intros; rfl) : Df K mg x st [p0, p1, p2] :=
 df_mk X G d fun _ _ _ _ _ _ us hl => match us, hl with | [_, _, _], _ => hb _ _ _ _ _ _ _ _ _
theorem df_4 {K : PySem.W.Frag} {h : Heap} {mg : Str → Option Value} {x : Str} {st : Stmt} {p0 p1 p2 p3 : Str} (X : K.In h) (G : h.Ns mainGlobals mg) (d : D4 K x st) (hb : ∀ (kV doc pm : Value) (an : Option Addr) (cdv ct a0 a1 a2 a3 : Value), bindArgs (PySem.W.fnOf x x (defArgs st) (defBody st) (defScope st) .none kV doc pm an cdv ct) ⟨[a0, a1, a2, a3], []⟩ = pure ([p0, p1, p2, p3].zip [a0, a1, a2, a3]) := by intros; rfl) : Df K mg x st [p0, p1, p2, p3] :=
 df_mk X G d fun _ _ _ _ _ _ us hl => match us, hl with | [_, _, _, _], _ => hb _ _ _ _ _ _ _ _ _ _
abbrev FnAt (x : Str) (st : Stmt) (kV dc pm : Value) (an : Option Addr) (cd ct : Value) : FuncData := PySem.W.fnOf x x (defArgs st) (defBody st) (defScope st) .none kV dc pm an cd ct
open PySem.W in
theorem all_mk {l : OpenLaw} {w : World} {K : Frag} {h : Heap} {mg : Str → Option Value} {fa : Addr} (X : K.In h) (G : h.Ns mainGlobals mg) (hfa : mg "law" = some (.ref fa))
  {f : Addr} {od an : Option Addr} {sl : Array (Option Value)} {oc kV dc pm cd ct : Value}
  (a0 : D4 K "_law_caps" s__law_caps)
  (a1 : D4 K "_law_cell" s__law_cell)
  (a2 : D4 K "_law_pen" s__law_pen)
  (a3 : D4 K "_law_draw" s__law_draw)
  (a4 : D4 K "_law_plant" s__law_plant)
  (a5 : D4 K "_law_firing" s__law_firing)
  (a6 : D4 K "drawn_by" s_drawn_by)
  (a7 : D4 K "is_tuple_of" s_is_tuple_of)
  (a8 : D4 K "is_whole" s_is_whole)
  (a9 : D4 K "is_whole_from" s_is_whole_from)
  (a10 : D4 K "is_fault" s_is_fault)
  (a11 : D4 K "is_make_and_coal" s_is_make_and_coal)
  (a12 : D4 K "are_boilers" s_are_boilers)
  (a13 : D4 K "is_engine" s_is_engine)
  (a14 : D4 K "are_engines" s_are_engines)
  (a15 : D4 K "is_main" s_is_main)
  (a16 : D4 K "is_plant" s_is_plant)
  (a17 : D4 K "need_plant" s_need_plant)
  (a18 : D4 K "is_story" s_is_story)
  (a19 : D4 K "need_story" s_need_story)
  (a20 : D4 K "draws_of" s_draws_of)
  (a21 : D4 K "_law_behind" s__law_behind)
  (a22 : D4 K "floor_at" s_floor_at)
  (a23 : D4 K "tails_from" s_tails_from)
  (a24 : D4 K "highest_floor" s_highest_floor)
  (a25 : D4 K "is_too_much" s_is_too_much)
  (a26 : D4 K "least_stretch" s_least_stretch)
  (a27 : D4 K "coal_under" s_coal_under)
  (a28 : D4 K "cap_under" s_cap_under)
  (a29 : D4 K "words_for" s_words_for)
  (a30 : D4 K "caps_in" s_caps_in)
  (a31 : D4 K "caps_of" s_caps_of)
  (a32 : D4 K "terms_of" s_terms_of)
  (a33 : D4 K "least_coal" s_least_coal)
  (a34 : D4 K "_law_leanest_right" s__law_leanest_right)
  (a35 : D4 K "is_row" s_is_row)
  (a36 : D4 K "is_firing_within" s_is_firing_within)
  (a37 : D4 K "is_firing" s_is_firing)
  (a38 : D4 K "need_firing" s_need_firing)
  (a39 : D4 K "run_day" s_run_day)
  (a40 : D4 K "course" s_course)
  (a41 : D4 K "falls_at" s_falls_at)
  (a42 : D4 K "full_firing" s_full_firing)
  (a43 : D4 K "fullest" s_fullest)
  (a44 : D4 K "keeps_up" s_keeps_up)
  (a45 : D4 K "least_mains" s_least_mains)
  (a46 : D4 K "leanest" s_leanest)
  (a47 : D4 K "is_stretch" s_is_stretch)
  (a48 : D4 K "is_shown" s_is_shown)
  (a49 : D4 K "stretch_holds" s_stretch_holds)
  (a50 : D4 K "stretch_of" s_stretch_of)
  (a51 : D4 K "_law_right" s__law_right)
  (a52 : D4 K "_law_story" s__law_story)
  (a : nsIn K mainGlobals "law" = some (some (.ref f))) (l0 : K.lookup f = some ⟨oc, od, .func (FnAt "law" s_law kV dc pm an cd ct), sl⟩) (c : codeIn K cd "law" = true) (k : keepIn K (.ref f) = true)
  (z0 : nsIn K mainGlobals "all" = some none)
  (z1 : nsIn K mainGlobals "bool" = some none)
  (z2 : nsIn K mainGlobals "divmod" = some none)
  (z3 : nsIn K mainGlobals "enumerate" = some none)
  (z4 : nsIn K mainGlobals "int" = some none)
  (z5 : nsIn K mainGlobals "isinstance" = some none)
  (z6 : nsIn K mainGlobals "len" = some none)
  (z7 : nsIn K mainGlobals "list" = some none)
  (z8 : nsIn K mainGlobals "max" = some none)
  (z9 : nsIn K mainGlobals "min" = some none)
  (z10 : nsIn K mainGlobals "range" = some none)
  (z11 : nsIn K mainGlobals "reversed" = some none)
  (z12 : nsIn K mainGlobals "sum" = some none)
  (z13 : nsIn K mainGlobals "tuple" = some none)
  (z14 : nsIn K mainGlobals "zip" = some none)
  {t0 : Tok} (q0 : nsIn K mainGlobals "MOST_BOILERS" = some (some (.int 4 t0)))
  {t1 : Tok} (q1 : nsIn K mainGlobals "MOST_ENGINES" = some (some (.int 4 t1)))
  {t2 : Tok} (q2 : nsIn K mainGlobals "MOST_FAULTS" = some (some (.int 4 t2)))
  {t3 : Tok} (q3 : nsIn K mainGlobals "MOST_HOURS" = some (some (.int 8 t3)))
  {t4 : Tok} (q4 : nsIn K mainGlobals "MOST_UNITS" = some (some (.int 9 t4)))
  {t5 : Tok} (q5 : nsIn K mainGlobals "MOST_EXTRA" = some (some (.int 20 t5)))
  {t6 : Tok} (q6 : nsIn K mainGlobals "MOST_IN_MAIN" = some (some (.int 40 t6)))
  : ∃ fd : FuncData, (∀ (s : Shared) (v : Value), BindsTo s fd ⟨[v], []⟩ [("_law_script", v)]) ∧ ∀ base : Heap, K.In base → base.Ns mainGlobals mg → FnOk l.prog w K mg base CX0 16 fa fd ["_law_script"] (sp_lawP K) := by
 have e := hfa.symm.trans (PySem.W.mg_of X G a)
 cases e
 have T : Tx mg := ⟨mg_none_of X G z0, mg_none_of X G z1, mg_none_of X G z2, mg_none_of X G z3, mg_none_of X G z4, mg_none_of X G z5, mg_none_of X G z6, mg_none_of X G z7, mg_none_of X G z8, mg_none_of X G z9, mg_none_of X G z10, mg_none_of X G z11, mg_none_of X G z12, mg_none_of X G z13, mg_none_of X G z14, ⟨_, mg_of X G q0⟩, ⟨_, mg_of X G q1⟩, ⟨_, mg_of X G q2⟩, ⟨_, mg_of X G q3⟩, ⟨_, mg_of X G q4⟩, ⟨_, mg_of X G q5⟩, ⟨_, mg_of X G q6⟩⟩
 have F := fun_mk (st := s_law) l0 c k
 refine ⟨PySem.W.fnOf "law" "law" (defArgs s_law) (defBody s_law) (defScope s_law) .none kV dc pm an cd ct, fun s v => .of_eq rfl, fun base _ _ => ?_⟩
 have B__law_caps := ok__law_caps (P := l.prog) (w := w) (base := base) (df_2 X G a0) T
 have B__law_cell := ok__law_cell (P := l.prog) (w := w) (base := base) (df_2 X G a1) T
 have B__law_pen := ok__law_pen (P := l.prog) (w := w) (base := base) (df_1 X G a2) T
 have B__law_draw := ok__law_draw (P := l.prog) (w := w) (base := base) (df_2 X G a3) T
 have B__law_plant := ok__law_plant (df_1 X G a4) T B__law_draw
 have B__law_firing := ok__law_firing (df_2 X G a5) T B__law_draw
 have B_drawn_by := ok_drawn_by (P := l.prog) (w := w) (base := base) (df_2 X G a6) T
 have B_is_tuple_of := ok_is_tuple_of (P := l.prog) (w := w) (base := base) (df_3 X G a7) T
 have B_is_whole := ok_is_whole (P := l.prog) (w := w) (base := base) (df_1 X G a8) T
 have B_is_whole_from := ok_is_whole_from (df_3 X G a9) T B_is_whole
 have B_is_fault := ok_is_fault (df_3 X G a10) T B_is_tuple_of B_is_whole_from
 have B_is_make_and_coal := ok_is_make_and_coal (df_1 X G a11) T B_is_tuple_of B_is_whole_from
 have B_are_boilers := ok_are_boilers (df_1 X G a12) T B_is_make_and_coal B_is_tuple_of
 have B_is_engine := ok_is_engine (df_1 X G a13) T B_is_tuple_of B_is_whole_from
 have B_are_engines := ok_are_engines (df_1 X G a14) T B_is_engine B_is_tuple_of
 have B_is_main := ok_is_main (df_1 X G a15) T B_is_tuple_of B_is_whole_from
 have B_is_plant := ok_is_plant (df_1 X G a16) T B_are_boilers B_are_engines B_is_main B_is_tuple_of
 have B_need_plant := ok_need_plant (df_1 X G a17) T B_is_plant
 have B_is_story := ok_is_story (df_2 X G a18) T B_is_fault B_is_tuple_of B_is_whole_from B_need_plant
 have B_need_story := ok_need_story (df_2 X G a19) T B_is_story
 have B_draws_of := ok_draws_of (df_2 X G a20) T B_drawn_by B_need_story
 have B__law_behind := ok__law_behind (df_4 X G a21) T B_draws_of
 have B_floor_at := ok_floor_at (P := l.prog) (w := w) (base := base) (df_4 X G a22) T
 have B_tails_from := ok_tails_from (df_3 X G a23) T B_floor_at
 have B_highest_floor := ok_highest_floor (df_1 X G a24) T B_tails_from
 have B_is_too_much := ok_is_too_much (P := l.prog) (w := w) (base := base) (df_2 X G a25) T
 have B_least_stretch := ok_least_stretch (df_1 X G a26) T B_is_too_much
 have B_coal_under := ok_coal_under (df_1 X G a27) T B_highest_floor B_least_stretch
 have B_cap_under := ok_cap_under (P := l.prog) (w := w) (base := base) (df_2 X G a28) T
 have B_words_for := ok_words_for (P := l.prog) (w := w) (base := base) (df_3 X G a29) T
 have B_caps_in := ok_caps_in (df_3 X G a30) T B_cap_under B_words_for
 have B_caps_of := ok_caps_of (df_2 X G a31) T B_caps_in B_need_story
 have B_terms_of := ok_terms_of (df_2 X G a32) T B_caps_of B_draws_of
 have B_least_coal := ok_least_coal (df_2 X G a33) T B_coal_under B_terms_of
 have B__law_leanest_right := ok__law_leanest_right (df_3 X G a34) T B__law_behind B_least_coal
 have B_is_row := ok_is_row (df_2 X G a35) T B_is_tuple_of B_is_whole_from
 have B_is_firing_within := ok_is_firing_within (df_2 X G a36) T B_is_row B_is_tuple_of
 have B_is_firing := ok_is_firing (df_3 X G a37) T B_caps_of B_is_firing_within
 have B_need_firing := ok_need_firing (df_3 X G a38) T B_is_firing
 have B_run_day := ok_run_day (df_3 X G a39) T B_draws_of B_need_firing
 have B_course := ok_course (df_3 X G a40) T B_run_day
 have B_falls_at := ok_falls_at (df_3 X G a41) T B_run_day
 have B_full_firing := ok_full_firing (df_2 X G a42) T B_caps_of
 have B_fullest := ok_fullest (df_2 X G a43) T B_course B_full_firing
 have B_keeps_up := ok_keeps_up (df_3 X G a44) T B_falls_at
 have B_least_mains := ok_least_mains (P := l.prog) (w := w) (base := base) (df_1 X G a45) T
 have B_leanest := ok_leanest (df_2 X G a46) T B_least_mains B_least_stretch B_terms_of
 have B_is_stretch := ok_is_stretch (df_2 X G a47) T B_is_tuple_of B_is_whole_from
 have B_is_shown := ok_is_shown (df_2 X G a48) T B_is_stretch B_is_too_much
 have B_stretch_holds := ok_stretch_holds (df_3 X G a49) T B_is_shown B_terms_of
 have B_stretch_of := ok_stretch_of (df_2 X G a50) T B_least_stretch B_terms_of
 have B__law_right := ok__law_right (df_4 X G a51) T B__law_firing B__law_leanest_right B_course B_falls_at B_full_firing B_fullest B_keeps_up B_leanest B_stretch_holds B_stretch_of
 have B__law_story := ok__law_story (df_2 X G a52) T B__law_draw
 exact ok_law F T B__law_caps B__law_cell B__law_pen B__law_plant B__law_right B__law_story
end MF
namespace PySem.W.Fast
def tw10398437459758627407:=0
def tw8634460472039377304:=0
def tw1065377714883030287:=0
def tw14241098488395177651:=0
def tw10211020946400940258:=0
def tw15246015705638391655:=0
def tw2869745830896758033:=0
def tw17166482756723255315:=0
def tw11741765936679014433:=0
def tw7532881750552950387:=0
def tw13785060206758957449:=0
def tw2630751449051878972:=0
def tw7448672469712890560:=0
def tw6128105536189454931:=0
def tw3350567841011218790:=0
def tw4078646920662409197:=0
def tw10033290557760461692:=0
def tw590390844279116654:=0
def tw17466216394130705709:=0
def tw7712749449804132856:=0
def tw14878137197313408992:=0
def tw11721928211787601173:=0
def tw13552243258451599509:=0
def tw7379699095634005461:=0
def tw12792852925831557559:=0
def tw9915673836288890256:=0
def tw5922107627071429929:=0
def tw17598234323333395439:=0
def tw53437814281486197:=0
def tw5078555078084676804:=0
def tw7589340454634861950:=0
def tw6688853285827656517:=0
def tw14202454722091881331:=0
def tw15604735294558798695:=0
def tw4942917487625381982:=0
def tw10514047810727689438:=0
def tw11781914362129486416:=0
def tw5084511202875017272:=0
def tw8048129383770851646:=0
def tw13300880191166926761:=0
def tw7169181141777159261:=0
def tw446539877538368458:=0
def tw889699776887282717:=0
def tw6658370284390351306:=0
def tw9607050861909733124:=0
def tw12097335617353741242:=0
def tw3844838292826838248:=0
def tw8515758722027702215:=0
def tw3718760859892656221:=0
def tw17819994215883768454:=0
def tw5941687242553525505:=0
def tw3536084240441013682:=0
def tw9785911982453602160:=0
def tw9840009447610279782:=0
def tw17346613051661569903:=0
def tw10765706992118770343:=0
def tw8670774167611712757:=0
def tw12523121659420493575:=0
def tw10569801237758284943:=0
def tw5938094780771243746:=0
def tw9701522802708222224:=0
def tw7216064472538648949:=0
def tw16225435205475565261:=0
def tw2161585255026596885:=0
def tw16776141852622406494:=0
def tw7159298075927660502:=0
def tw9353991668419211907:=0
def tw18401757319239166406:=0
def tw17466711370721966540:=0
def tw16337896751183369066:=0
def tw308913580567307133:=0
def tw11907162793309283871:=0
def tw8340809486951441502:=0
def tw18321609648355858996:=0
def tw6278706664451423206:=0
def tw7935374064018706891:=0
def tw8560281438100342038:=0
def tw9681193205189601266:=0
def tw1243730270405970920:=0
def tw5482049769787796565:=0
def tw626134863945050651:=0
def tw8433361434227009523:=0
def tw9444173793540695934:=0
def tw17664644588064458455:=0
def tw8622559858392879230:=0
def tw11711863298055037452:=0
def tw1010160417829751021:=0
def tw10874178812590262432:=0
def tw16060080322251945557:=0
def tw2211258286198583639:=0
def tw12620536557686360830:=0
def tw15508961341557202340:=0
def tw10489094966199161866:=0
def tw6068104342497289279:=0
def tw11869000108443069568:=0
def tw7257376254535979715:=0
def tw17504922461738812863:=0
def tw13025356884667543758:=0
def tw17941216368083734743:=0
def tw5094767083635523334:=0
def tw626189199784348243:=0
def tw9035414611047500040:=0
def tw4512703385945028344:=0
def tw6538237722600381834:=0
def tw9230697873274137763:=0
def tw13530449634413098449:=0
def tw6042609401693404630:=0
def tw9505774079473319670:=0
def tw13729790695373778154:=0
def tw871040032916025084:=0
def tw2998364166873833435:=0
def tw17044114923403675440:=0
def tw8864701694899273838:=0
def tw18199311753287639771:=0
def tw1033059475192811329:=0
def tw13975200623115517692:=0
def tw14533921771592826022:=0
def tw3474665358507877465:=0
def tw4256500905411950698:=0
def tw1507641338576852759:=0
def tw3283757758246875272:=0
def tw16595339274437134193:=0
def tw16039925850540240087:=0
def tw12843878661521752035:=0
def tw16857740498758061436:=0
end PySem.W.Fast
open PySem PySem.W PyProof.Rows
set_option maxRecDepth 100000 in
set_option maxHeartbeats 0 in
theorem PySem.Challenge.cw_mainfires_k33_whole_stretches_and_mains_holds : PySem.Challenge.rw_mainfires_k33_whole_stretches_and_mains.Holds := by
 w_on; o_law; k_head; (case hw => w_witness2)
 k_fill
 refine L2.walk_ofK (l := PySem.Challenge.rw_mainfires_k33_whole_stretches_and_mains) (n := 63) (k := 16) (x := "_law_script") (CX := L2.CX0) (sp := MF.sp_lawP) rfl (by decide) rfl ⟨rfl, by decide, by decide, rfl⟩ (fun w h Y => PySem.W.kIn_of Y) ?F (fun _ _ a ns hl _ hS => ⟨ns, hS, hl, fun _ => rfl⟩) (fun _ _ _ _ z => z)
 case F =>
  intro w mg fa h KX G hmg
  refine' MF.all_mk KX G hmg ?_ ?_ ?_ ?_ ?_ ?_ ?_ ?_ ?_ ?_ ?_ ?_ ?_ ?_ ?_ ?_ ?_ ?_ ?_ ?_ ?_ ?_ ?_ ?_ ?_ ?_ ?_ ?_ ?_ ?_ ?_ ?_ ?_ ?_ ?_ ?_ ?_ ?_ ?_ ?_ ?_ ?_ ?_ ?_ ?_ ?_ ?_ ?_ ?_ ?_ ?_ ?_ ?_ ?_ ?_ ?_ ?_ ?_ ?_ ?_ ?_ ?_ ?_ ?_ ?_ ?_ ?_ ?_ ?_ ?_ ?_ ?_ ?_ ?_ ?_ ?_ ?_ ?_ ?_
  all_goals first | refine' MF.d4_mk ?_ ?_ ?_ ?_ | skip
  any_goals k_is

end
